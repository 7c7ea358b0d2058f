import PyProof.Rows.All
import Wide.All
import OpenK.AllK
import Wide.FinOn
import PySem.Challenge.RW_deedworlds_k11_readings_looked_at
import HandS.Base
import HandS.Call
import HandS.List
import HandS.Comp
import HandS.Iter
import HandS.Evl
import HandS.Words
import KE.GoesMore
import KE.GoesEnum
import PyProof.ReprRoads
import PyProof.AutoIntOps
import HandS.Ends
import HandS.ForMost
import HandS.IsInst
import HandS.Zip
import HandS.TupAny
import HandS.Conv
import HandS.NoneIn
import HandS.More
import HandS.Wide
import HandS.Walk
import HandS.ReCall
import KE.KIndexOf
import PyProof.Rows.RegFStrParts
import KE.KDictPairs
import KE.KDictZip
import HandS.Dict
import HandS.Set
import HandS.SetFor
import HandS.TupSets
import PyProof.Rows.SortStr
import HandS.Strs
import HandS.Style
import KE.GoesZip
import PyProof.ListStr
import HandS.FStr
import HandS.DictComp
import HandS.ListItems
import HandS.Text
import KE.KEqDict
import KE.KDictItemsList
import HandS.TupMul
import HandS.Exc
import HandS.ExcOwn
import HandS.WordsExc
import KE.KExcIs
import HandS.ExcIs
import PyProof.RowDictHeap
import PyProof.ReprLen
import HandS.RaiseMore
import HandS.Deep
import PyProof.CallStr
import HandS.Codes
import HandS.RevRange
import HandS.SetKeys
import HandS.Flow
import PyProof.CallFns
import KE.RegKIsAll
set_option Elab.async false
set_option linter.all false
set_option maxRecDepth 100000
set_option maxHeartbeats  4000000
section
/-! a rule of our own over the hand layer: for .. in enumerate(a tuple) -/
namespace Dw
open PySem PySem.Spec PyProof.Rows L2
/-- the walker of a tuple, and what counts beside it, as enumerate lays them -/
abbrev tupWalker (tp : Addr) : Obj := { cls := .type "tuple_iterator", data := .fields #[.ref tp, .int 0 0] }
abbrev counter (wk : Addr) : Obj := { cls := .type "enumerate", data := .fields #[.none, .bool false, .ref wk, rawInt 0, .none, .none] }
theorem new_enumT (tp : Addr) (cells : Array Value) (cap : Nat) (dc : Option Addr) (osl : Array (Option Value)) :
    Meets (Builtin.«enumerate.__new__» ⟨[.type "enumerate", .ref tp], []⟩) (fun _ R s => s.heap.get? tp = some { cls := .type "tuple", dict := dc, data := .seq cells cap, slots := osl } ∧
      R (.ok (.ret (.ref (s.heap.push (tupWalker tp)).objs.size))) { s with heap := (s.heap.push (tupWalker tp)).push (counter s.heap.objs.size) }) := by
  refine .of_wp fun prog w A R s pre => ?_
  obtain ⟨hp, glo, dep, tk, os⟩ := s
  obtain ⟨at_, goal⟩ := pre
  have isSub := sub_enumerate
  have isTup : Heap.IsTuple (Shared.heap ⟨hp, glo, dep, tk, os⟩) tp cells := ⟨_, at_, rfl, cap, rfl⟩
  wp_walk using AutoSeq1.wpAny_loadPart' at_
  refine wpAny_stack_any (fun _ => wpAny_pure ?_)
  split
  case h_1 cl _ _ _ _ _ =>
    generalize (cl == Value.type "enumerate") = same
    cases same <;> (wp_walk using AutoSeq1.wpAny_loadPart' at_, wpAny_pyIter_tuple isTup; exact ⟨_, rfl, goal⟩)
  case h_2 =>
    wp_walk using AutoSeq1.wpAny_loadPart' at_, wpAny_pyIter_tuple isTup
    exact ⟨_, rfl, goal⟩
/-- what stands behind enumerate(tuple): two new objects, all else as it was -/
structure Laid (old new : Heap) (tp : Addr) : Prop where
  cnt : IsEnum new (old.objs.size + 1) old.objs.size 0 .none
  wlk : new.IsTupleIter old.objs.size tp 0
  kept : ∀ b o, old.get? b = some o → new.get? b = some o
theorem laid_mk (old : Heap) (tp : Addr) : Laid old ((old.push (tupWalker tp)).push (counter old.objs.size)) tp := by
  have size1 : (old.push (tupWalker tp)).objs.size = old.objs.size + 1 := Heap.size_push ..
  have last := Heap.get?_push_size (old.push (tupWalker tp)) (o := counter old.objs.size) rfl
  rw [size1] at last
  exact ⟨last, ⟨tupWalker tp, Heap.get?_push_of_some _ (Heap.get?_push_size _ rfl), rfl, rfl⟩, fun b o q => Heap.get?_push_of_some _ (Heap.get?_push_of_some _ q)⟩
theorem call_enumT {prog : Program} {w : World} {A : Around} {E Q : Value → Shared → Prop} {s : Shared} {tp : Addr} {cells : Array Value} (isTup : s.heap.IsTuple tp cells)
    (next : ∀ new, Laid s.heap new tp → Q (.ref (s.heap.objs.size + 1)) { s with heap := new }) : wpAny (model prog w) A (call (.type "enumerate") [.ref tp]) Q E s := by
  obtain ⟨⟨cl, dc, dat, osl⟩, at_, isT, cap, isSeq⟩ := isTup
  have e1 : cl = .type "tuple" := isT
  have e2 : dat = .seq cells cap := isSeq
  subst e1
  subst e2
  have made := laid_mk s.heap tp
  have size1 : (s.heap.push (tupWalker tp)).objs.size = s.heap.objs.size + 1 := Heap.size_push ..
  refine callType_new F.called_enumerate (by decide) (F.typeCall_enumerate_1 _) (F.newCall_enumerate_1 _) (fun ob => F.args_object_init_2 ob _) F.entry_enumerate_new (new_enumT tp cells cap dc osl) (And.intro at_ ?_)
  have e3 : Value.ref (s.heap.push (tupWalker tp)).objs.size = .ref (s.heap.objs.size + 1) := by rw [size1]
  show _ ∧ _
  rw [e3]
  exact And.intro ⟨_, made.cnt, rfl⟩ (next _ made)
/-- the tuple at tp: its items, each in a new pair behind its place -/
def IteT (K : PySem.W.Frag) (tp : Addr) : It :=
  ⟨fun i H => ∃ (xs : List V) (x : V), SqT K H tp xs ∧ xs[i]? = some x, fun i H v H' => ∃ pr x, v = .ref pr ∧ H pr = none ∧ H' = upd H pr (.tup [.int (i : Nat), x]) ∧ ∀ xs, SqT K H tp xs → xs[i]? = some x, fun i H => ∃ xs : List V, SqT K H tp xs ∧ xs.length ≤ i⟩
/-- how the two objects stand ahead of turn i -/
def StandsT (tp cn wk : Addr) (i : Nat) (hp : Heap) : Prop := (∃ old, IsEnum hp cn wk ((i : Nat) : Int) old) ∧ hp.IsTupleIter wk tp i ∧ cn ≠ wk ∧ tp ≠ cn ∧ tp ≠ wk
theorem two {b x y : Addr} {P : Addr → Prop} (hb : b ∈ [x, y]) (px : P x) (py : P y) : P b := by
  rcases List.mem_cons.mp hb with same | same
  · exact same ▸ px
  · exact (List.mem_singleton.mp same) ▸ py
theorem turn_enumT {P : Program} {w : World} {K : PySem.W.Frag} {elts : List Expr} {kk : Nat} {tpos : Pos} (tp cn wk : Addr) : Turn P w K (.Tuple elts kk tpos) (IteT K tp) [cn, wk] cn (StandsT tp cn wk) where
  mem := List.mem_cons_self ..
  obj := by
    intro i hp st b hb
    obtain ⟨⟨_, isE⟩, ⟨o, at_, _, dat⟩, _⟩ := st
    exact two (P := fun b => ∃ o, hp.get? b = some o ∧ ∀ v, o.data ≠ .cell v) hb ⟨_, isE, fun _ q => nomatch q⟩ ⟨o, at_, fun v q => by rw [dat] at q; cases q⟩
  keep := by
    intro i hp hp' st same
    obtain ⟨⟨old, isE⟩, isI, far⟩ := st
    exact ⟨⟨old, same cn (List.mem_cons_self ..) _ isE⟩, isI.at fun o q => same wk (List.mem_cons_of_mem _ (List.mem_singleton.mpr rfl)) o q, far⟩
  item := by
    intro X eP ew eK calm i pins s σ H E I free st here
    subst eP ew eK
    obtain ⟨⟨old, isE⟩, isI, ne1, ne2, ne3⟩ := st
    obtain ⟨xs, x, isT, atx⟩ := here
    obtain ⟨cells, rel, isTup, _⟩ := I.tuple isT
    obtain ⟨u, atu, ru⟩ := rel.get atx
    have low : i < cells.toArray.size := by
      rw [List.size_toArray]
      exact (List.getElem?_eq_some_iff.mp atu).1
    have inCn : cn < s.heap.objs.size := Heap.lt_size isE
    have inWk : wk < s.heap.objs.size := let ⟨_, q, _⟩ := isI; Heap.lt_size q
    have far : cn ∉ [wk, tp] := fun z => by
      rcases List.mem_cons.mp z with one | one
      · exact ne1 one
      · exact ne2 (List.mem_singleton.mp one).symm
    have quiet : X.A.in1.handled = none := I.ok.hd calm
    refine wpAny_pyNext_enum_itemD (Draws.tuple (prog := X.prog) (w := X.w) quiet wk tp ne3 cells.toArray) isE ⟨isI, isTup⟩ low ne1 far fun v hp1 tk isv out st1 pair _ same => ?_
    have ev : v = u := by
      have q : cells.toArray[i]? = some v := isv
      rw [List.getElem?_toArray, atu] at q
      cases q
      rfl
    subst ev
    refine ⟨_, rfl, wpAny_letOwnedTupleGo_enum (s := { s with heap := hp1, toks := tk + 1 }) out fun hp2 isE2 but => ?_⟩
    have pair2 : hp2.get? s.heap.objs.size = some { cls := .type "tuple", data := .seq #[.int i tk, v] } := (but.2 _ (Nat.ne_of_gt inCn)).trans pair
    have fine : ObjOk X.prog X.w (upd H s.heap.objs.size (.tup [.int (i : Nat), x])) hp2 s.heap.objs.size (.tup [.int (i : Nat), x]) :=
      And.intro (show 2 ≤ sizeLine by decide) ⟨[.int i tk, v], .cons ⟨_, rfl⟩ (.cons ru .nil), _, pair2, rfl, _, rfl⟩
    have still : ∀ b ob, b ∉ [cn, wk] → s.heap.get? b = some ob → hp2.get? b = some ob := fun b ob nb q => by
      have n1 : b ≠ cn := fun z => nb (z ▸ List.mem_cons_self ..)
      have n2 : b ≠ wk := fun z => nb (z ▸ List.mem_cons_of_mem _ (List.mem_singleton.mpr rfl))
      rw [but.2 b n1]
      exact same b ob n1 n2 q
    have J := I.turnedNew (ch := [cn, wk]) (t' := tk + 1) still free (Nat.le_refl s.heap.objs.size) fine
    have up : (i : Int) + 1 = ((i + 1 : Nat) : Int) := (Int.natCast_succ i).symm
    rw [up] at isE2
    refine ⟨.ref s.heap.objs.size, _, J, rfl, ⟨_, x, rfl, I.hok.fresh (Nat.le_refl _), rfl, fun ys isY => ?_⟩, ⟨⟨v, isE2⟩, st1.1.at fun o q => (but.2 wk ne1.symm).trans q, ne1, ne2, ne3⟩, fun b hb => ?_⟩
    · rw [I.tuple_inj isY isT]
      exact atx
    · have inB : b < s.heap.objs.size := two (P := fun b => b < s.heap.objs.size) hb inCn inWk
      rw [upd_ne (Nat.ne_of_lt inB)]
      exact (free b hb).1
  done := by
    intro X eP ew eK calm i pins s σ H E I free st over
    subst eP ew eK
    obtain ⟨⟨old, isE⟩, isI, ne1, ne2, ne3⟩ := st
    obtain ⟨xs, isT, short⟩ := over
    obtain ⟨cells, rel, isTup, _⟩ := I.tuple isT
    obtain ⟨g0, g1, g2, g3, g4, g5⟩ := free wk (List.mem_cons_of_mem _ (List.mem_singleton.mpr rfl))
    have many : cells.toArray.size ≤ i := by
      rw [List.size_toArray, ← rel.length]
      exact short
    have quiet : X.A.in1.handled = none := I.ok.hd calm
    have D : Draws X.prog X.w X.A.in1 wk [wk, tp] i (fun _ _ => False) (fun j hp => j = i ∧ hp.IsTupleIter wk tp i ∧ hp.IsTuple tp cells.toArray) :=
      { live := fun _ _ q => let ⟨o, z, _⟩ := q.2.1; ⟨o, z⟩
        frame := fun _ _ _ q same => ⟨q.1, q.2.1.at fun o z => same wk (List.mem_cons_self ..) o z, q.2.2.at fun o z => same tp (List.mem_cons_of_mem _ (List.mem_singleton.mpr rfl)) o z⟩
        item := fun _ _ _ _ less q _ => absurd q.1 (Nat.ne_of_lt less)
        done := fun _ _ _ q ends => wpAny_nextOf_tuple_end quiet q.2.1 q.2.2 (Array.getElem?_eq_none many) ends }
    exact wpAny_pyNext_enum_endD D isE ⟨rfl, isI, isTup⟩ fun hp1 ext => ⟨rfl, I.turned (t' := s.toks) (fun b o nb q => ext b o nb q) g0 g1 g3 g4 g5⟩
  self := by
    intro A i s Q E st q
    obtain ⟨⟨_, isE⟩, _⟩ := st
    exact wpAny_pyIter_enum isE q
def iEnumT (K : PySem.W.Frag) (ta : TA) : TI := fun σ H R => ta σ H fun vs H1 => ∃ tp xs, vs = [.ref tp] ∧ SqT K H1 tp xs ∧ R (IteT K tp) H1
theorem pi_enumT {X : Cx} {e : Expr} {ta : TA} {p pos tpos : Pos} {elts : List Expr} {kk : Nat} (glob : Gl X "enumerate") (none_ : X.mg "enumerate" = none) (arg : PA X [e] ta) (star : starEach [e] X.env = [(false, eval e X.env)] := by rfl) :
    PI X (.Tuple elts kk tpos) (.Call (.Name "enumerate" p) [e] [] pos) (iEnumT X.K ta) := by
  constructor
  intro pins s σ H R I q0
  have given := arg.run pos pins s σ H _ I q0
  refine Call_ (ld_blt I glob none_ boot_enumerate (callWith_type1 (thn given fun us s1 got => ?_) star rfl))
  obtain ⟨vs, H1, J, rel, tp, xs, isOne, isT, q1⟩ := got
  subst isOne
  obtain ⟨u, isU, ru⟩ := vals1 rel
  subst isU
  cases (show u = Value.ref tp from ru)
  obtain ⟨cells, _, isTup, _⟩ := J.tuple isT
  have inTp : tp < s1.heap.objs.size := let ⟨_, at_, _⟩ := (show s1.heap.IsTuple tp cells.toArray from isTup); Heap.lt_size at_
  refine call_enumT isTup fun new made => wpAny_pyIter_enum made.cnt ?_
  have J2 : Inv X pins σ H1 { s1 with heap := new } := J.kept (t' := s1.toks) made.kept
  have stands : StandsT tp (s1.heap.objs.size + 1) s1.heap.objs.size 0 new := ⟨⟨.none, made.cnt⟩, made.wlk, Nat.succ_ne_self _, Nat.ne_of_lt (Nat.lt_succ_of_lt inTp), Nat.ne_of_lt inTp⟩
  refine ⟨s1.heap.objs.size + 1, [s1.heap.objs.size + 1, s1.heap.objs.size], _, _, H1, rfl, J2, turn_enumT tp _ _, stands, fun b hb => ?_, q1⟩
  have late : s1.heap.objs.size ≤ b := two (P := fun b => s1.heap.objs.size ≤ b) hb (Nat.le_succ _) (Nat.le_refl _)
  exact J.fpOk late (J.hok.fresh late)
end Dw
end
section
namespace Dw
open PySem PySem.Spec PyProof.Rows L2
/-! ### repr of data, where nothing is being shown around -/
/-! ### ** of a base that op_pow does not take -/
end Dw
end
section
/-! the law's own def, entered from the caller's place itself (so that it is known there that nothing is being shown) -/
namespace Dw
open PySem PySem.Spec PyProof.Rows L2
/-- a def of one parameter, entered at a told place A -/
theorem enter1 {P : Program} {w : World} {K : PySem.W.Frag} {mg : Str → Option Value} {base : Heap} {k : Nat} {x qual : Str} {st : Stmt} {f : Addr} {fd : FuncData} {N : List Str} {A : Around} {outer : List Env} {s : Shared} {H : Hp} {v : V} {u : Value} {Q : VK}
    (F : Fun K qual qual st f fd) (S : FnScope N [x] (defScope st)) (bd : BindsTo s fd ⟨[u], []⟩ [(x, u)]) (room : Room (k + 1) A) (e0 : Env0 P w K mg base A outer s H) (rv : RelV v u)
    (body : ∀ cdv : Value, ∃ t, PSs (cxOf CX0 P w K mg base N qual (defScope st) f cdv A outer s H E0).nox (defBody st) t ∧ t { nx := fun _ H' => Q .non H', rt := Q } (start N [v]) H) :
    codeAny (model P w) A (.call (.ref f) ⟨[u], []⟩) (CR CX0 outer P w H s Q E0) s := by
  obtain ⟨oc, od, kV, doc, pm, an, cdv, ct, osl, efd, look, code⟩ := F.ex
  subst efd
  obtain ⟨t, der, rd⟩ := body cdv
  have kept : ∀ b o, base.get? b = some o → s.heap.get? b = some o := fun b o e => (e0.bs b o e).1
  have inK : K.In s.heap := e0.mod.kin.keeps kept
  refine codeAny_call_function room.depth (inK f _ look) rfl S.co S.gen rfl (PySem.W.codeRec_of inK code) (bd _ _ _ _ ?_)
  have kinds : ∀ y ∈ [(x, u)], (defScope st).names.lookup y.1 = some .local ∨ ((defScope st).names.lookup y.1 = some .cell ∧ ((cellsFrom (s.heap.objs.size + 1) (defScope st).names []).lookup y.1).isSome = true) := by
    intro y hy
    rw [List.mem_singleton.mp hy]
    cases S.par x (List.mem_singleton.mpr rfl) with
    | inl one => exact Or.inl one
    | inr one => exact Or.inr ⟨one, PySem.W.cellsFrom_some _ _ _ (Or.inl one)⟩
  refine wpAny_newFunctionEnv_cells S.kind kinds (fun env isEnv s1 ic => ?_)
  subst isEnv
  have noLim : s.heap.NoLimit := e0.mod.nolimit.keeps kept
  refine ⟨noLim.keeps ic.toInCall.keep, codeAny_func ?_⟩
  have start0 : Inv (cxOf CX0 P w K mg base N qual (defScope st) f cdv A outer s H E0) [] (start N [v]) H s1 := inv_start S room.hd e0 rfl (.cons rv .nil) ic
  refine wpAny_mono (der.nox.run [] s1 (start N [v]) H _ start0 rd) (fun flow s2 done => ?_) (fun _ _ bad => bad)
  match flow, done with
  | .next, ⟨_, H2, inv, q⟩ => exact ⟨.non, H2, inv.os, inv.bare, inv.base, inv.hok, rfl, q⟩
  | .ret _, ⟨v2, _, H2, inv, rel, q⟩ => exact ⟨v2, H2, inv.os, inv.bare, inv.base, inv.hok, rel, q⟩
  | .brk, ⟨_, _, _, q⟩ => exact q.elim
  | .cont, ⟨_, _, _, q⟩ => exact q.elim
/-- how the script stands ahead of the law: tracked as locked, or one of the written part's own -/
def scriptHp (K : PySem.W.Frag) (a : Addr) (ob : Obj) (ns : List Int) : Hp := fun b => if b = a ∧ K.lookup a = none then some (.frz ob (.lst (ns.map V.int))) else none
section
variable {K : PySem.W.Frag} {a : Addr} {ob : Obj} {ns : List Int}
theorem scriptHp_some {b : Addr} {u : HO} (h : scriptHp K a ob ns b = some u) : b = a ∧ K.lookup a = none ∧ u = .frz ob (.lst (ns.map V.int)) := by
  unfold scriptHp at h
  split at h
  · rename_i c
    exact ⟨c.1, c.2, (Option.some.inj h).symm⟩
  · cases h
theorem scriptHp_at (h : K.lookup a = none) : scriptHp K a ob ns a = some (.frz ob (.lst (ns.map V.int))) := if_pos ⟨rfl, h⟩
theorem scriptHp_no {b : Addr} (h : b ≠ a) : scriptHp K a ob ns b = none := if_neg fun c => h c.1
end
/-- the end of a law row whose def is walked from the caller's place -/
theorem walkG {l : PySem.W.OpenLaw} {n k : Nat} {q : Program} {loose : List Str} {XP : (Str → Option Value) → Heap → Prop} {YP : World → Heap → Prop} {d : DefRec} {K : Params → PySem.W.Frag} {x : Str}
    (hn : l.most = some n) (hn2 : n ≤ sizeLine) (hdf : d.params.defaults = []) (room : Room (k + 1) callerA) (hY : ∀ (w : World) (h : Heap), YP w h → (K w.params).In h)
    (F : ∀ (w : World) (mg : Str → Option Value) (fa : Addr) (h : Heap),
      (K w.params).In h → h.Ns mainGlobals mg → mg d.name = some (.ref fa) →
      ∃ (fd : FuncData) (st : Stmt) (N : List Str), Fun (K w.params) d.name d.name st fa fd ∧ FnScope N [x] (defScope st) ∧ (∀ (s : Shared) (u : Value), BindsTo s fd ⟨[u], []⟩ [(x, u)]) ∧
        ∀ (base : Heap) (s : Shared) (H : Hp) (cdv : Value) (a : Addr) (ns : List Int), (K w.params).In base → base.Ns mainGlobals mg → ns.length ≤ n → SqL (K w.params) H a (ns.map V.int) →
          ∃ t, PSs (cxOf CX0 l.prog w (K w.params) mg base N d.name (defScope st) fa cdv callerA [] s H E0).nox (defBody st) t ∧ t { nx := fun _ _ => False, rt := fun v _ => v = .bl true } (start N [.ref a]) H) :
    PySem.W.WalkO q loose XP YP l.row.toRowW d [] (fun g us => PySem.call g us) := by
  refine Att.attach_call hn hdf (fun w _ s mg mb fa _ _ _ _ a vs ns G Y _ _ _ gl isL nums len gens => ?_)
  have inK := hY w s.heap Y
  obtain ⟨fd, st, N, Fn, S, bd, body⟩ := F w mg fa s.heap inK G.T.g gl
  let H : Hp := scriptHp (K w.params) a { cls := .type "list", data := .seq vs.toArray } ns
  have rel : Vals (ns.map V.int) vs := vals_ints nums
  have small : vs.length ≤ sizeLine := by rw [nums.length]; exact Nat.le_trans len hn2
  have okH : HOk l.prog w H s.heap := by
    intro b u e
    obtain ⟨rfl, _, rfl⟩ := scriptHp_some e
    exact ⟨isL, by rw [List.length_map]; exact Nat.le_trans len hn2, vs, _, rel, isL⟩
  have seq : SqL (K w.params) H a (ns.map V.int) := by
    cases lk : (K w.params).lookup a with
    | none => exact Or.inl (Or.inr ⟨_, scriptHp_at lk⟩)
    | some o =>
      have same : o = { cls := .type "list", data := .seq vs.toArray } := Option.some.inj ((inK a o lk).symm.trans isL)
      exact Or.inr ⟨o, vs.toArray, _, lk, by rw [same], by rw [same], by rw [same], by rw [List.size_toArray]; exact small, by simpa using rel⟩
  have freeK : ∀ b o, (K w.params).lookup b = some o → H b = none := by
    intro b o e
    by_cases hb : b = a
    · subst hb
      exact if_neg fun c => by rw [c.2] at e; cases e
    · exact scriptHp_no hb
  have freeD : ∀ b o es ep, s.heap.get? b = some o → o.data = .dict es ep → H b = none := by
    intro b o es ep e dat
    by_cases hb : b = a
    · subst hb
      rw [isL] at e
      cases e
      cases dat
    · exact scriptHp_no hb
  have names : ∀ b m, s.heap.Ns b m → (hidT s.heap H).Ns b m := fun b m ⟨o, es, ep, e, dat, r⟩ => ⟨o, es, ep, hidT_get e (freeD b o es ep e dat), dat, r⟩
  have inB : (K w.params).In (hidT s.heap H) := fun b o e => hidT_get (inK b o e) (freeK b o e)
  have noL : (hidT s.heap H).NoLimit := by
    obtain ⟨mc, c1, c2⟩ := G.T.nolimit
    exact ⟨mc, names _ _ c1, c2⟩
  have e0 : Env0 l.prog w (K w.params) mg (hidT s.heap H) callerA [] s H :=
    { frames := rfl, mod := ⟨inB, names _ _ G.T.g, ⟨mb, names _ _ G.T.b, G.T.builtins⟩, noL⟩, bs := fun b o e => of_hidT e, bsz := Nat.le_of_eq (hidT_size _ _), funs := trivial, frf := fun b hb => absurd (show b ∈ ([] : List Addr) from hb) (by simp), hok := okH, bare := .of_eq gens }
  have run := enter1 (P := l.prog) (v := .ref a) (Q := fun v _ => v = .bl true) Fn S (bd s (.ref a)) room e0 rfl (fun cdv => by
    obtain ⟨t, t1, t2⟩ := body (hidT s.heap H) s H cdv a ns inB (names _ _ G.T.g) len seq
    refine ⟨t, t1, ?_⟩
    have no : (fun (_ : L2.St) (_ : Hp) => (V.non = V.bl true)) = fun _ _ => False := by
      funext _ _
      exact propext ⟨fun z => V.noConfusion z, False.elim⟩
    show t { nx := fun (_ : L2.St) (_ : Hp) => V.non = V.bl true, rt := fun v _ => v = .bl true } (start N [.ref a]) H
    rw [no]
    exact t2)
  refine codeAny_mono run (fun r s2 done => ?_)
  match r, done with
  | .error _, bad => exact bad.elim
  | .ok .next, bad => exact bad.elim
  | .ok .brk, bad => exact bad.elim
  | .ok .cont, bad => exact bad.elim
  | .ok (.ret _), ⟨_, H2, os, bare, un, ok2, rr, isT⟩ =>
    subst isT
    cases (show _ = Value.bool true from rr)
    refine ⟨rfl, OldK.of_keep (fun b o e => ?_), os, bare⟩
    cases tr : H b with
    | none => exact un.keep b o e tr (fun z => absurd (show b ∈ ([] : List Addr) from z) (by simp)) (by simp)
    | some u =>
      obtain ⟨hb, _, hu⟩ := scriptHp_some tr
      subst hb hu
      have still := un.frzs _ _ _ tr
      rw [isL] at e
      cases e
      exact (ok2 _ _ still).1
end Dw
end
section
/-! what a reading evaluates to: more words over Evl; tuples of natural numbers; defs by their names -/
namespace Dw
open PySem PySem.Spec PyProof.Rows L2 Evl
/-! ### defs by their names -/
/-- a def of the text behind the top, all of its parameters without defaults -/
structure Df (K : PySem.W.Frag) (mg : Str → Option Value) (x : Str) (st : Stmt) (ps : List Str) : Prop where
  ex : ∃ (f : Addr) (fd : FuncData), Fun K x x st f fd ∧ mg x = some (.ref f) ∧ Binds K fd ps []
/-- a def that keeps a promise -/
structure Cl (P : Program) (w : World) (K : PySem.W.Frag) (mg : Str → Option Value) (base : Heap) (k : Nat) (x : Str) (sp : Sp) : Prop where
  ex : ∃ (f : Addr) (fd : FuncData) (ps : List Str), FnOk P w K mg base CX0 k f fd ps sp ∧ mg x = some (.ref f) ∧ PySem.W.keepIn K (.ref f) = true ∧ Binds K fd ps []
theorem cl_of {P : Program} {w : World} {K : PySem.W.Frag} {mg : Str → Option Value} {base : Heap} {x : Str} {st : Stmt} {N ps : List Str} {k : Nat} {sp : Sp} (D : Df K mg x st ps) (S : FnScope N ps (defScope st)) (len : ∀ vs H Q E, sp vs H Q E → vs.length = ps.length)
    (body : ∀ (f : Addr) (cdv : Value) (A : Around) (outer : List Env) (s : Shared) (H : Hp) (vs : List V) (Q : VK) (E : XK), Room k (A.deeper (envOfC x (defScope st) s.heap.objs.size f cdv)) → sp vs H Q E →
      ∃ t, PSs (cxOf CX0 P w K mg base N x (defScope st) f cdv A outer s H E).nox (defBody st) t ∧ t { nx := fun _ H' => Q .non H', rt := Q } (start N vs) H) : Cl P w K mg base (k + 1) x sp := by
  obtain ⟨f, fd, F, m, b⟩ := D.ex
  exact ⟨f, fd, ps, F.ok S len (fun cdv A outer s H vs Q E hr h => body f cdv A outer s H vs Q E hr h), m, F.kp, b⟩
theorem pe_cl {X : Cx} {k j : Nat} {x : Str} {sp : Sp} {p pos : Pos} {e : Expr} {es : List Expr} {t : TA} (c : Cl X.prog X.w X.K X.mg X.base k x sp) (hr : Room j X.A) (hk : k ≤ j) (hg : Gl X x) (ha : PA X (e :: es) t)
    (dbg : (x == ("__debug__" : Str)) = false := by decide) (str : starEach (e :: es) X.env = (false, eval e X.env) :: starEach es X.env := by rfl) (bck : (backTo pos (starEach es X.env)).any (·.1) = false := by rfl) :
    PE X (.Call (.Name x p) (e :: es) [] pos) (tCall sp [] E0 t) := by
  obtain ⟨f, fd, ps, F, m, kp, b⟩ := c.ex
  exact pe_call F (hr.mono hk) hg m kp b .nil pass0 ha dbg str bck
/-- a pure promise: of some a what must hold, and what comes back, all that stood left as it was -/
def spX {α : Type} (pre : α → List V → Hp → Prop) (post : α → V → Hp → Prop) : Sp := fun vs H Q _ => ∃ a, pre a vs H ∧ ∀ v H', Ex H H' → post a v H' → Q v H'
/-! ### values of any kind, by what holds of them -/
def EvP (te : TE) (σ : L2.St) (H : Hp) (P : V → Hp → Prop) : Prop := ∀ H1, Ex H H1 → ∀ Q : VK, (∀ v H2, Ex H1 H2 → P v H2 → Q v H2) → te σ H1 Q
section
variable {K : PySem.W.Frag} {σ : L2.St} {H H' : Hp} {ta tb te : TE} {x y z v : V} {P : V → Hp → Prop}
theorem EvP.mono (e : Ex H H') (h : EvP te σ H P) : EvP te σ H' P := fun H1 a Q q => h H1 (e.trans a) Q q
theorem EvP.imp {P' : V → Hp → Prop} (h : EvP te σ H P) (i : ∀ v H', Ex H H' → P v H' → P' v H') : EvP te σ H P' := fun H1 e Q q => h H1 e Q fun v H2 e2 p => q v H2 e2 (i v H2 (e.trans e2) p)
theorem ep_ev (h : Ev te σ H v) (p : ∀ H', Ex H H' → P v H') : EvP te σ H P := fun H1 e Q q => h H1 e Q fun H2 e2 => q v H2 e2 (p H2 (e.trans e2))
theorem ev_ep (h : EvP te σ H fun u _ => u = v) : Ev te σ H v := fun H1 e Q q => h H1 e Q fun u H2 e2 p => by subst p; exact q H2 e2
/-- a call by a pure promise -/
theorem ep_call {α : Type} {pre : α → List V → Hp → Prop} {post : α → V → Hp → Prop} (a : α) {vs : List V} {E : XK} {ta : TA} (h : EvA ta σ H vs) (hp : ∀ H1, Ex H H1 → pre a vs H1) : EvP (tCall (spX pre post) [] E ta) σ H (post a) := fun H1 e Q q =>
  h H1 e _ fun H2 e2 => by
    rw [List.append_nil]
    exact ⟨a, hp H2 (e.trans e2), fun v H3 e3 p => q v H3 (e2.trans e3) p⟩
theorem ev_callV {α : Type} {pre : α → List V → Hp → Prop} {post : α → V → Hp → Prop} (a : α) {vs : List V} {E : XK} {ta : TA} (h : EvA ta σ H vs) (hp : ∀ H1, Ex H H1 → pre a vs H1) (hv : ∀ u H', post a u H' → u = v) : Ev (tCall (spX pre post) [] E ta) σ H v :=
  ev_ep ((ep_call a h hp).imp fun u H' _ p => hv u H' p)
/-! isinstance -/
theorem ev_isi {c : V} {t u : Value} {b : Bool} (ha : Ev ta σ H x) (hc : Ev tb σ H c) (k : ClsV c u) (ty : ∀ H1, Ex H H1 → TyX K H1 x t) (e : PySem.W.kitOne K t u = some b) : Ev (tCB (rIsi K) (tCons ta (tCons tb tNil))) σ H (.bl b) := fun H1 e1 Q q =>
  ha H1 e1 _ fun H2 e2 => hc H2 (e1.trans e2) _ fun H3 e3 => ⟨x, c, t, u, b, rfl, k, ty H3 ((e1.trans e2).trans e3), e, q H3 (e2.trans e3)⟩
theorem tyx_int (i : Int) : TyX K H (.int i) (.type "int") := .base (.int i)
theorem tyx_str (s : Str) : TyX K H (.str s) (.type "str") := .base (.str s)
theorem tyx_bl (b : Bool) : TyX K H (.bl b) (.type "bool") := .base (.bl b)
theorem tyx_non : TyX K H .non (.type "NoneType") := .base .non
theorem tyx_tup {a : Addr} {xs : List V} (h : SqT K H a xs) : TyX K H (.ref a) (.type "tuple") := by
  rcases h with (h | ⟨o, h⟩) | ⟨o, its, n, lk, c, _⟩
  · exact .base (.tup h)
  · exact .fTuple h
  · exact .kTuple lk c
theorem kit_tt : PySem.W.kitOne K (.type "tuple") (.type "tuple") = some true := kit_ty (by decide +kernel)
theorem kit_ii : PySem.W.kitOne K (.type "int") (.type "int") = some true := kit_ty (by decide +kernel)
theorem kit_ib : PySem.W.kitOne K (.type "int") (.type "bool") = some false := kit_ty (by decide +kernel)
theorem kit_ss : PySem.W.kitOne K (.type "str") (.type "str") = some true := kit_ty (by decide +kernel)
/-! len -/
theorem ev_lenT {p : Addr} {xs : List V} (ha : Ev ta σ H (.ref p)) (h : SqT K H p xs) : Ev (tCB (rLenS K) (tCons ta tNil)) σ H (.int (xs.length : Int)) := fun H1 e Q q =>
  ha H1 e _ fun H2 e2 => ⟨p, xs, rfl, Or.inr (ex_t (e.trans e2) h), q H2 e2⟩
def rLenTx : List V → Hp → VK → Prop := fun xs H Q => ∃ z, xs = [.str z] ∧ z.length ≤ sizeLine ∧ Q (.int z.length) H
theorem ev_lenS {z : Str} (ha : Ev ta σ H (.str z)) (h : z.length ≤ 100000) : Ev (tCB rLenTx (tCons ta tNil)) σ H (.int (z.length : Int)) := fun H1 e Q q =>
  ha H1 e _ fun H2 e2 => ⟨z, rfl, sz_of h, q H2 e2⟩
/-- a < b < c and the like -/
theorem ev_chain {r r' : R2} {tc : TE} {x y z : V} {a b : Bool} (ha : Ev ta σ H x) (hb : Ev tb σ H y) (hc : a = true → Ev tc σ H z) (h1 : RV r x y H (.bl a)) (h2 : a = true → RV r' y z H (.bl b)) : Ev (tChain r r' ta tb tc) σ H (.bl (a && b)) := fun H1 e Q q =>
  ha H1 e _ fun H2 e2 => hb H2 (e.trans e2) _ fun H3 e3 => h1 H3 ((e.trans e2).trans e3) _ fun H4 e4 => ⟨a, rfl, by
    have e14 := (e2.trans e3).trans e4
    cases a with
    | true =>
      show tc σ H4 _
      refine hc rfl H4 (e.trans e14) _ fun H5 e5 => ?_
      exact h2 rfl H5 ((e.trans e14).trans e5) Q fun H6 e6 => q H6 ((e14.trans e5).trans e6)
    | false =>
      show Q (.bl false) H4
      exact q H4 e14⟩
theorem et_val {b : Bool} (h : Ev te σ H (.bl b)) : EvT (tB te) σ H b := et_B h
theorem et_isN {x : V} (h : Ev ta σ H x) : EvT (tTest (tOp (fun x y H Q => y = .non ∧ Q (.bl (!decide (x = .non))) H) ta (tC .non))) σ H (!decide (x = .non)) := fun H1 e Q q =>
  h H1 e _ fun H2 e2 => ⟨rfl, _, rfl, q H2 e2⟩
end
/-! ### tuples of natural numbers -/
abbrev vi (k : Nat) : V := .int (k : Int)
theorem atI_vi {xs : List V} {k : Nat} {v : V} (h : xs[k]? = some v) : atI xs (k : Int) = some v := atI_nat h
/-- all tuples that stood stand (lists may have changed) -/
def ET (K : PySem.W.Frag) (H H' : Hp) : Prop := ∀ a xs, SqT K H a xs → SqT K H' a xs
theorem ET.refl {K : PySem.W.Frag} {H : Hp} : ET K H H := fun _ _ h => h
theorem ET.trans {K : PySem.W.Frag} {H H1 H2 : Hp} (a : ET K H H1) (b : ET K H1 H2) : ET K H H2 := fun p xs h => b p xs (a p xs h)
theorem Ex.et {K : PySem.W.Frag} {H H' : Hp} (e : Evl.Ex H H') : ET K H H' := fun _ _ h => ex_t e h
theorem ET.upd {K : PySem.W.Frag} {H H' : Hp} {l : Addr} {xs ys : List V} (e : ET K H H') (h : H' l = some (.lst xs)) : ET K H (upd H' l (.lst ys)) := fun a zs q => by
  rcases e a zs q with (q | ⟨o, q⟩) | q
  · have ne : a ≠ l := fun z => by rw [z, h] at q; cases q
    exact .inl (.inl (by rw [upd_ne ne]; exact q))
  · have ne : a ≠ l := fun z => by rw [z, h] at q; cases q
    exact .inl (.inr ⟨o, by rw [upd_ne ne]; exact q⟩)
  · exact .inr q
def Nats (K : PySem.W.Frag) (H : Hp) (v : V) (ns : List Nat) : Prop := ∃ a, v = .ref a ∧ SqT K H a (ns.map vi)
theorem Nats.et {K : PySem.W.Frag} {H H' : Hp} {v : V} {ns : List Nat} (e : ET K H H') (h : Nats K H v ns) : Nats K H' v ns := let ⟨a, q, s⟩ := h; ⟨a, q, e _ _ s⟩
theorem Nats.ex {K : PySem.W.Frag} {H H' : Hp} {v : V} {ns : List Nat} (e : Evl.Ex H H') (h : Nats K H v ns) : Nats K H' v ns := h.et (Dw.Ex.et e)
theorem paired_imp {α β : Type} {R S : α → β → Prop} (h : ∀ a b, R a b → S a b) : ∀ {xs : List α} {ys : List β}, Paired R xs ys → Paired S xs ys
  | _, _, .nil => .nil
  | _, _, .cons a b => .cons (h _ _ a) (paired_imp h b)
theorem paired_get {α β : Type} {R : α → β → Prop} : ∀ {xs : List α} {ys : List β} {i : Nat} {y : β}, Paired R xs ys → ys[i]? = some y → ∃ x, xs[i]? = some x ∧ R x y
  | _, _, _, _, .nil, h => by simp at h
  | _, _, 0, _, .cons a _, h => by
    have e := Option.some.inj h
    subst e
    exact ⟨_, rfl, a⟩
  | _, _, i + 1, y, .cons _ b, h => by
    obtain ⟨x, e, r⟩ := paired_get (i := i) b h
    exact ⟨x, e, r⟩
theorem paired_len {α β : Type} {R : α → β → Prop} : ∀ {xs : List α} {ys : List β}, Paired R xs ys → xs.length = ys.length
  | _, _, .nil => rfl
  | _, _, .cons _ b => congrArg (· + 1) (paired_len b)
theorem paired_snoc {α β : Type} {R : α → β → Prop} {x : α} {y : β} (r : R x y) : ∀ {xs : List α} {ys : List β}, Paired R xs ys → Paired R (xs ++ [x]) (ys ++ [y])
  | _, _, .nil => .cons r .nil
  | _, _, .cons a b => .cons a (paired_snoc r b)
/-- a tuple of tuples of natural numbers -/
def Tabs (K : PySem.W.Frag) (H : Hp) (v : V) (ts : List (List Nat)) : Prop := ∃ a vs, v = .ref a ∧ SqT K H a vs ∧ Paired (Nats K H) vs ts
theorem Tabs.et {K : PySem.W.Frag} {H H' : Hp} {v : V} {ts : List (List Nat)} (e : ET K H H') (h : Tabs K H v ts) : Tabs K H' v ts := let ⟨a, vs, q, s, p⟩ := h; ⟨a, vs, q, e _ _ s, paired_imp (fun _ _ n => n.et e) p⟩
theorem Tabs.ex {K : PySem.W.Frag} {H H' : Hp} {v : V} {ts : List (List Nat)} (e : Evl.Ex H H') (h : Tabs K H v ts) : Tabs K H' v ts := h.et (Dw.Ex.et e)
/-- a deed; a signature -/
def Deed (K : PySem.W.Frag) (H : Hp) (v : V) (p : Str × Nat) : Prop := ∃ b, v = .ref b ∧ SqT K H b [.str p.1, vi p.2]
theorem Deed.et {K : PySem.W.Frag} {H H' : Hp} {v : V} {p : Str × Nat} (e : ET K H H') (h : Deed K H v p) : Deed K H' v p := let ⟨b, q, s⟩ := h; ⟨b, q, e _ _ s⟩
def Sig (K : PySem.W.Frag) (H : Hp) (v : V) (sg : List (Str × Nat)) : Prop := ∃ a vs, v = .ref a ∧ SqT K H a vs ∧ Paired (Deed K H) vs sg
theorem Sig.et {K : PySem.W.Frag} {H H' : Hp} {v : V} {sg : List (Str × Nat)} (e : ET K H H') (h : Sig K H v sg) : Sig K H' v sg := let ⟨a, vs, q, s, p⟩ := h; ⟨a, vs, q, e _ _ s, paired_imp (fun _ _ n => n.et e) p⟩
theorem Sig.ex {K : PySem.W.Frag} {H H' : Hp} {v : V} {sg : List (Str × Nat)} (e : Evl.Ex H H') (h : Sig K H v sg) : Sig K H' v sg := h.et (Dw.Ex.et e)
/-- a model: its size and its tables -/
def Mdl (K : PySem.W.Frag) (H : Hp) (v : V) (n : Nat) (ts : List (List Nat)) : Prop := ∃ a u, v = .ref a ∧ SqT K H a [vi n, u] ∧ Tabs K H u ts
theorem Mdl.et {K : PySem.W.Frag} {H H' : Hp} {v : V} {n : Nat} {ts : List (List Nat)} (e : ET K H H') (h : Mdl K H v n ts) : Mdl K H' v n ts := let ⟨a, u, q, s, p⟩ := h; ⟨a, u, q, e _ _ s, p.et e⟩
theorem Mdl.ex {K : PySem.W.Frag} {H H' : Hp} {v : V} {n : Nat} {ts : List (List Nat)} (e : Evl.Ex H H') (h : Mdl K H v n ts) : Mdl K H' v n ts := h.et (Dw.Ex.et e)
end Dw
end
section
/-! loops and comprehensions over anything that is walked; statements by what holds of a value -/
namespace Dw
open PySem PySem.Spec PyProof.Rows L2 Evl
section
variable {K : PySem.W.Frag} {σ : L2.St} {H H' : Hp} {ta tb te : TE} {t : TT} {x y z v : V} {P : V → Hp → Prop} {D : Ends} {tu tz : TS} {g : TG}
/-! ### statements -/
theorem s_asgP {i : Nat} (h : EvP te σ H P) (k : ∀ v H1, Ex H H1 → P v H1 → D.nx (σ.set i (some v)) H1) : tAsg te (gName i) D σ H := h H (Ex.refl H) _ fun v H1 e p => k v H1 e p
theorem q_asgP {i : Nat} (h : EvP te σ H P) (k : ∀ v H1, Ex H H1 → P v H1 → tz D (σ.set i (some v)) H1) : tSeq (tAsg te (gName i)) tz D σ H := s_asgP (D := { D with nx := tz D }) h k
/-- arguments, the last of them by what holds of it -/
def EvAP (ta : TA) (σ : L2.St) (H : Hp) (P : List V → Hp → Prop) : Prop := ∀ H1, Ex H H1 → ∀ Q : List V → Hp → Prop, (∀ vs H2, Ex H1 H2 → P vs H2 → Q vs H2) → ta σ H1 Q
theorem eap_cons {tr : TA} {P : V → Hp → Prop} {R : List V → Hp → Prop} (h : EvP te σ H P) (hr : EvAP tr σ H R) (keep : ∀ v H1 H2, Ex H1 H2 → P v H1 → P v H2) : EvAP (tCons te tr) σ H (fun vs H' => ∃ v r, vs = v :: r ∧ P v H' ∧ R r H') := fun H1 e Q q =>
  h H1 e _ fun v H2 e2 p => hr H2 (e.trans e2) _ fun r H3 e3 pr => q (v :: r) H3 (e2.trans e3) ⟨v, r, rfl, keep v H2 H3 e3 p, pr⟩
/-- a call by a pure promise, its arguments by what holds of them -/
theorem ep_callP {α : Type} {pre : α → List V → Hp → Prop} {post : α → V → Hp → Prop} {R : List V → Hp → Prop} (a : α) {E : XK} {ta : TA} (h : EvAP ta σ H R) (hp : ∀ vs H1, Ex H H1 → R vs H1 → pre a vs H1) : EvP (tCall (spX pre post) [] E ta) σ H (post a) := fun H1 e Q q =>
  h H1 e _ fun vs H2 e2 r => by
    rw [List.append_nil]
    exact ⟨a, hp vs H2 (e.trans e2) r, fun v H3 e3 p => q v H3 (e2.trans e3) p⟩
/-! ### all -/
theorem ev_all {bs : List Bool} (h : EvL te σ H (bs.map V.bl)) : Ev (tCB (rAll K) (tCons te tNil)) σ H (.bl (bs.all id)) := fun H1 e Q q =>
  h H1 e _ fun p H2 _ e2 hp => ⟨p, bs, rfl, sq_of hp, q H2 e2⟩
/-! ### comprehensions -/
theorem et_yes : EvT tYes σ H true := fun H1 _ _ q => q H1 (Ex.refl H1)
/-- one for over anything whose turns leave the heap as it was -/
theorem el_lcIt {J : It} {n : Nat} {G : Hp → Prop} {Y : Nat → Hp → V → Hp → Prop} {wi : TI} {Px : Nat → V → Prop} {j : Nat} {vs : List Nat} (w : Walk J n G Y)
    (hw0 : ∀ H0, Ex H H0 → ∀ R : It → Hp → Prop, (∀ H1, Ex H0 H1 → R J H1) → wi σ H0 R) (hG : ∀ H1, Ex H H1 → G H1) (hY : ∀ i H x H', Y i H x H' → H' = H ∧ Px i x)
    (f : Nat → Bool) (u : Nat → V) (hn : n ≤ 40000) (hwp : ∀ x, wipe ((wipe σ vs).set j (some x)) vs = wipe σ vs)
    (ht : ∀ i x H1, Ex H H1 → i < n → Px i x → EvT t ((wipe σ vs).set j (some x)) H1 (f i)) (he : ∀ i x H1, Ex H H1 → i < n → Px i x → f i = true → Ev te ((wipe σ vs).set j (some x)) H1 (u i)) :
    EvL (tLc wi (gName j) t te vs) σ H (given n f u) := fun H0 e Q q => hw0 H0 e _ fun H1 e1 Dl hD =>
  lc_it w (Cw H1 f u Dl) ⟨hD, Ex.new hD, upd_same⟩ (fun i H2 _ p => hG H2 ((e.trans e1).trans p.2.1)) (fun i x H2 H3 hi p y => by
    obtain ⟨rfl, px⟩ := hY i H2 x H3 y
    exact ⟨hwp x, cw_turn p (by omega) (ht i x H1 (e.trans e1) hi px) (fun hf => he i x H1 (e.trans e1) hi px hf)⟩)
    (fun H2 p => q Dl H2 (fresh_back e1 p.1) (e1.trans p.2.1) p.2.2)
theorem given_all (n : Nat) (u : Nat → V) : given n (fun _ => true) u = (List.range n).map u := by
  unfold given
  rw [List.filter_eq_self.mpr (fun _ _ => rfl)]
/-- .. without a test -/
theorem el_lcAll {J : It} {n : Nat} {G : Hp → Prop} {Y : Nat → Hp → V → Hp → Prop} {wi : TI} {Px : Nat → V → Prop} {j : Nat} {vs : List Nat} (w : Walk J n G Y)
    (hw0 : ∀ H0, Ex H H0 → ∀ R : It → Hp → Prop, (∀ H1, Ex H0 H1 → R J H1) → wi σ H0 R) (hG : ∀ H1, Ex H H1 → G H1) (hY : ∀ i H x H', Y i H x H' → H' = H ∧ Px i x)
    (u : Nat → V) (hn : n ≤ 40000) (hwp : ∀ x, wipe ((wipe σ vs).set j (some x)) vs = wipe σ vs) (he : ∀ i x H1, Ex H H1 → i < n → Px i x → Ev te ((wipe σ vs).set j (some x)) H1 (u i)) :
    EvL (tLc wi (gName j) tYes te vs) σ H ((List.range n).map u) := by
  have h := el_lcIt w hw0 hG hY (fun _ => true) u hn hwp (fun _ _ _ _ _ _ => et_yes) (fun i x H1 e hi px _ => he i x H1 e hi px)
  rw [given_all] at h
  exact h
theorem w_str {z : Str} (h : Ev te σ H (.str z)) : ∀ H0, Ex H H0 → ∀ R : It → Hp → Prop, (∀ H1, Ex H0 H1 → R (Its z) H1) → iStr te σ H0 R := fun H0 e R r => h H0 e _ fun H1 e1 => ⟨z, rfl, r H1 e1⟩
theorem w_tup {a : Addr} {xs : List V} (h : Ev te σ H (.ref a)) (hx : SqT K H a xs) : ∀ H0, Ex H H0 → ∀ R : It → Hp → Prop, (∀ H1, Ex H0 H1 → R (Itt K a) H1) → iTup K te σ H0 R := fun H0 e R r => h H0 e _ fun H1 e1 => ⟨a, rfl, ⟨xs, ex_t (e.trans e1) hx⟩, r H1 e1⟩
theorem w_rng {ta : TA} {n : Nat} (h : EvA ta σ H [vi n]) (hn : n ≤ 40000) : ∀ H0, Ex H H0 → ∀ R : It → Hp → Prop, (∀ H1, Ex H0 H1 → R (Itr 0 n) H1) → iRng1 ta σ H0 R := fun H0 e R r => h H0 e _ fun H1 e1 => ⟨n, rfl, by omega, by omega, r H1 e1⟩
/-- over a tuple, a value for each item -/
theorem el_lcT {a : Addr} {xs : List V} {tl : TE} {j : Nat} {vs : List Nat} (h : Ev tl σ H (.ref a)) (hx : SqT K H a xs) (u : Nat → V) (hn : xs.length ≤ 40000) (hwp : ∀ x, wipe ((wipe σ vs).set j (some x)) vs = wipe σ vs)
    (he : ∀ i x H1, Ex H H1 → xs[i]? = some x → Ev te ((wipe σ vs).set j (some x)) H1 (u i)) : EvL (tLc (iTup K tl) (gName j) tYes te vs) σ H ((List.range xs.length).map u) :=
  el_lcAll walk_tup (w_tup h hx) (fun H1 e => ex_t e hx) (Px := fun i x => xs[i]? = some x) (fun i H x H' y => y) u hn hwp (fun i x H1 e _ px => he i x H1 e px)
theorem el_lcS {z : Str} {tl : TE} {j : Nat} {vs : List Nat} (h : Ev tl σ H (.str z)) (u : Nat → V) (hn : z.cps.size ≤ 40000) (hwp : ∀ x, wipe ((wipe σ vs).set j (some x)) vs = wipe σ vs)
    (he : ∀ i c H1, Ex H H1 → z.cps[i]? = some c → Ev te ((wipe σ vs).set j (some (.str ⟨#[c]⟩))) H1 (u i)) : EvL (tLc (iStr tl) (gName j) tYes te vs) σ H ((List.range z.cps.size).map u) :=
  el_lcAll walk_str (w_str h) (fun _ _ => trivial) (Px := fun i x => ∃ c, z.cps[i]? = some c ∧ x = .str ⟨#[c]⟩) (fun i H x H' y => y) u hn hwp (fun i x H1 e _ ⟨c, hc, hx⟩ => by subst hx; exact he i c H1 e hc)
/-! ### loops that give pairs -/
theorem walk_enumT {a : Addr} {xs : List V} : Walk (IteT K a) xs.length (fun H => SqT K H a xs) (YPair (fun i => some (vi i)) (fun i => xs[i]?)) := by
  refine ⟨fun i H hi q => ⟨xs, xs[i], q, List.getElem?_eq_getElem hi⟩, fun H q => ⟨xs, q, Nat.le_refl _⟩, fun i H v H' _ q y => ?_⟩
  obtain ⟨T, x, h1, h2, h3, h4⟩ := y
  exact ⟨T, vi i, x, h1, h2, h3, rfl, h4 xs q⟩
theorem q_enumT {a : Addr} {xs : List V} {ta : TA} {j1 j2 : Nat} (h : EvA ta σ H [.ref a]) (hx : SqT K H a xs) (Pv : Nat → L2.St → Hp → Prop) (h0 : ∀ H1, Ex H H1 → Pv 0 σ H1) (hl : ∀ i σ' H', i ≤ xs.length → Pv i σ' H' → SqT K H' a xs)
    (hs : ∀ i x σ' H' H'', xs[i]? = some x → Pv i σ' H' → Ex H' H'' → tu { D with nx := Pv (i + 1), ct := Pv (i + 1), bk := tz D } ((σ'.set j1 (some (vi i))).set j2 (some x)) H'') (hd : ∀ σ' H', Pv xs.length σ' H' → tz D σ' H') :
    tSeq (tFor (iEnumT K ta) (gTup K 2 (gCons (gName j1) (gCons (gName j2) gNil))) tu) tz D σ H :=
  h H (Ex.refl H) _ fun H1 e => ⟨a, xs, rfl, ex_t e hx, for_it (D := { D with nx := tz D }) walk_enumT Pv (h0 H1 e) hl (fun i v σ' H2 H3 hi p y => by
    obtain ⟨T, x1, x2, rfl, nT, rfl, e1, e2⟩ := y
    cases e1
    exact ⟨T, _, rfl, st_of upd_same, rfl, _, _, rfl, _, _, rfl, rfl, hs i x2 σ' H2 _ e2 p (Ex.new nT)⟩) hd⟩
theorem s_enumT {a : Addr} {xs : List V} {ta : TA} {j1 j2 : Nat} (h : EvA ta σ H [.ref a]) (hx : SqT K H a xs) (Pv : Nat → L2.St → Hp → Prop) (h0 : ∀ H1, Ex H H1 → Pv 0 σ H1) (hl : ∀ i σ' H', i ≤ xs.length → Pv i σ' H' → SqT K H' a xs)
    (hs : ∀ i x σ' H' H'', xs[i]? = some x → Pv i σ' H' → Ex H' H'' → tu { D with nx := Pv (i + 1), ct := Pv (i + 1), bk := D.nx } ((σ'.set j1 (some (vi i))).set j2 (some x)) H'') (hd : ∀ σ' H', Pv xs.length σ' H' → D.nx σ' H') :
    tFor (iEnumT K ta) (gTup K 2 (gCons (gName j1) (gCons (gName j2) gNil))) tu D σ H :=
  h H (Ex.refl H) _ fun H1 e => ⟨a, xs, rfl, ex_t e hx, for_it walk_enumT Pv (h0 H1 e) hl (fun i v σ' H2 H3 hi p y => by
    obtain ⟨T, x1, x2, rfl, nT, rfl, e1, e2⟩ := y
    cases e1
    exact ⟨T, _, rfl, st_of upd_same, rfl, _, _, rfl, _, _, rfl, rfl, hs i x2 σ' H2 _ e2 p (Ex.new nT)⟩) hd⟩
/-- enumerate of a list -/
theorem q_enumL {a : Addr} {xs : List V} {ta : TA} {j1 j2 : Nat} (h : EvA ta σ H [.ref a]) (hx : SqL K H a xs) (Pv : Nat → L2.St → Hp → Prop) (h0 : ∀ H1, Ex H H1 → Pv 0 σ H1) (hl : ∀ i σ' H', i ≤ xs.length → Pv i σ' H' → SqL K H' a xs)
    (hs : ∀ i x σ' H' H'', xs[i]? = some x → Pv i σ' H' → Ex H' H'' → tu { D with nx := Pv (i + 1), ct := Pv (i + 1), bk := tz D } ((σ'.set j1 (some (vi i))).set j2 (some x)) H'') (hd : ∀ σ' H', Pv xs.length σ' H' → tz D σ' H') :
    tSeq (tFor (iEnum K ta) (gTup K 2 (gCons (gName j1) (gCons (gName j2) gNil))) tu) tz D σ H :=
  h H (Ex.refl H) _ fun H1 e => ⟨a, xs, rfl, ex_l e hx, for_it (D := { D with nx := tz D }) walk_enum Pv (h0 H1 e) hl (fun i v σ' H2 H3 hi p y => by
    obtain ⟨T, x1, x2, rfl, nT, rfl, e1, e2⟩ := y
    cases e1
    exact ⟨T, _, rfl, st_of upd_same, rfl, _, _, rfl, _, _, rfl, rfl, hs i x2 σ' H2 _ e2 p (Ex.new nT)⟩) hd⟩
end
end Dw
end
section
/-! comprehensions of two fors; new tuples of lists; lists made and changed -/
namespace Dw
open PySem PySem.Spec PyProof.Rows L2 Evl
section
variable {K : PySem.W.Frag} {σ : L2.St} {H H' : Hp} {ta tb te : TE} {t : TT} {x y z v : V} {P : V → Hp → Prop} {D : Ends} {tu tz : TS} {g : TG}
end
end Dw
end
section
/-! zip of two tuples; tuples of values by what holds of them -/
namespace Dw
open PySem PySem.Spec PyProof.Rows L2 Evl RZ
section
variable {K : PySem.W.Frag} {σ : L2.St} {H H' : Hp} {ta tb te : TE} {t : TT} {x y z v : V} {P : V → Hp → Prop} {D : Ends} {tu tz : TS} {g : TG}
theorem eap_nil : EvAP tNil σ H (fun vs _ => vs = []) := fun H1 _ _ q => q [] H1 (Ex.refl H1) rfl
end
end Dw
end
section
/-! a new tuple told with its own object (so that its methods may be called); tuple.index of ints -/
namespace Dw
open PySem PySem.Spec PyProof.Rows L2 Evl
/-! readings opened by one step -/
section
variable {σ : L2.St} {H : Hp} {ta tb te : TE} {D : Ends} {g : TG}
theorem do_cons {tr : TA} {Q : List V → Hp → Prop} (h : ta σ H fun x H1 => tr σ H1 fun xs H2 => Q (x :: xs) H2) : tCons ta tr σ H Q := h
theorem do_nil {Q : List V → Hp → Prop} (h : Q [] H) : tNil σ H Q := h
theorem do_op {r : R2} {Q : VK} (h : ta σ H fun x H1 => tb σ H1 fun y H2 => r x y H2 Q) : tOp r ta tb σ H Q := h
theorem do_tup {t : TA} {Q : VK} (h : t σ H fun xs H1 => xs.length ≤ sizeLine ∧ ∀ p, H1 p = none → Q (.ref p) (upd H1 p (.tup xs))) : tTup t σ H Q := h
theorem do_lst {t : TA} {Q : VK} (h : t σ H fun xs H1 => xs.length ≤ sizeLine ∧ ∀ p, H1 p = none → Q (.ref p) (upd H1 p (.lst xs))) : tLst t σ H Q := h
theorem do_cb {r : List V → Hp → VK → Prop} {t : TA} {Q : VK} (h : t σ H fun vs H1 => r vs H1 Q) : tCB r t σ H Q := h
theorem do_test {Q : Bool → Hp → Prop} (h : te σ H fun x H' => ∃ k, x = .bl k ∧ Q k H') : tTest te σ H Q := h
theorem do_ret (h : te σ H D.rt) : tRet te D σ H := h
theorem do_asg (h : te σ H fun x H1 => g x σ H1 D.nx) : tAsg te g D σ H := h
theorem do_if {c : TT} {t u : TS} (h : c σ H fun b H1 => if b = true then t D σ H1 else u D σ H1) : tIfS c t u D σ H := h
theorem do_ev {v : V} {Q : VK} (h : Ev te σ H v) (k : ∀ H1, Ex H H1 → Q v H1) : te σ H Q := h H (Ex.refl H) Q k
theorem do_evL {xs : List V} {Q : VK} (h : EvL te σ H xs) (k : ∀ p H1, H p = none → Ex H H1 → H1 p = some (.lst xs) → Q (.ref p) H1) : te σ H Q := h H (Ex.refl H) Q k
end
section
variable {X : Cx}
def rTupF (K : PySem.W.Frag) : List V → Hp → VK → Prop := fun xs H Q => ∃ p ys, xs = [.ref p] ∧ SqL K H p ys ∧ ∀ l o, H l = none → o.dict = none → Q (.ref l) (upd H l (.frz o (.tup ys)))
theorem call_tupF : CallR X (.type "tuple") (rTupF X.K) := by
  intro pins s σ H xs us Q I r h
  obtain ⟨p, ys, e, isL, q⟩ := h
  subst e
  obtain ⟨u, hu, ru⟩ := vals1 r
  subst hu
  cases (show u = Value.ref p from ru)
  obtain ⟨its, rel, at_, small⟩ := I.list isL
  have many : its.toArray.size ≤ sizeLine := by
    rw [List.size_toArray, ← rel.length]
    exact small
  refine call_tuple_list at_.isList (fun h2 keep => ?_) many
  have J : Inv X pins σ H { s with heap := h2 } := I.kept (t' := s.toks) keep
  let ob : Obj := { cls := .type "tuple", data := .seq its.toArray }
  have got : (h2.push ob).get? h2.objs.size = some ob := Heap.get?_push_size _ rfl
  have okN : ObjOk X.prog X.w (upd H h2.objs.size (.frz ob (.tup ys))) (h2.push ob) h2.objs.size (.frz ob (.tup ys)) := ⟨got, small, its, rel, ob, got, rfl, _, rfl⟩
  have J2 := J.laid (t' := s.toks) (h' := h2.push ob) (fun b o e => Heap.get?_push_of_some _ e) (Nat.le_refl h2.objs.size) okN
  exact ⟨.ref h2.objs.size, _, J2, rfl, q _ ob (J.hok.fresh (Nat.le_refl _)) rfl⟩
end
end Dw
end
section
/-! data of tracked things: what repr and == want of it -/
namespace Dw
open PySem PySem.Spec PyProof.Rows L2 Evl
/-- small data: depth at most k, weight at most W -/
structure Gd (k W : Nat) (d : PyData) : Prop where
  lay : d.canLay0 = true
  dep : d.depth ≤ k
  wgt : d.weight ≤ W
  its : d.intsShort 13 = true
  sho : d.showable = true
theorem Gd.mono {k W k' W' : Nat} {d : PyData} (h : Gd k W d) (a : k ≤ k') (b : W ≤ W') : Gd k' W' d := ⟨h.lay, Nat.le_trans h.dep a, Nat.le_trans h.wgt b, h.its, h.sho⟩
theorem log_low {n : Nat} (h : n ≤ 1000) : n.log2 ≤ 9 := by
  by_cases z : n = 0
  · subst z
    decide
  · exact Nat.le_of_lt_succ ((Nat.log2_lt z).mpr (by have e : 2 ^ 10 = 1024 := by decide
                                                     omega))
theorem gd_int {n : Nat} (h : n ≤ 1000) : Gd 0 10 (.int (n : Int)) := by
  have l := log_low h
  refine ⟨by rw [PyData.canLay0], by rw [PyData.depth]; exact Nat.le_refl _, ?_, ?_, ?_⟩
  · rw [PyData.weight, Int.natAbs_natCast]
    split <;> omega
  · rw [PyData.intsShort]
    exact decide_eq_true (PyData.shown_int_le2 (by omega) (by omega))
  · rw [PyData.showable, Int.natAbs_natCast]
    exact decide_eq_true (by omega)
theorem gd_str {z : Str} (h : ∀ c ∈ z.cps.toList, c < 0x110000) (l : z.cps.size ≤ 100) : Gd 0 100 (.str z) := by
  refine ⟨?_, by rw [PyData.depth]; exact Nat.le_refl _, by rw [PyData.weight]; exact l, by rw [PyData.intsShort], by rw [PyData.showable]⟩
  rw [PyData.canLay0]
  show z.cps.all (· < 0x110000) = true
  rw [Array.all_eq_true]
  intro i hi
  exact decide_eq_true (h _ (by rw [Array.mem_toList_iff]; exact Array.getElem_mem hi))
theorem gd_all {k W : Nat} : ∀ {ds : List PyData}, (∀ d ∈ ds, Gd k W d) → PyData.canLayAll0 ds = true ∧ PyData.depthAll ds ≤ k ∧ PyData.weightAll ds ≤ ds.length * (W + 1) ∧ PyData.intsShortAll 13 ds = true ∧ PyData.showableAll ds = true
  | [], _ => ⟨by rw [PyData.canLayAll0], by rw [PyData.depthAll]; exact Nat.zero_le _, by rw [PyData.weightAll]; exact Nat.zero_le _, by rw [PyData.intsShortAll], by rw [PyData.showableAll]⟩
  | d :: ds, h => by
    obtain ⟨a, b, c, e, f⟩ := gd_all (ds := ds) fun x hx => h x (List.mem_cons_of_mem _ hx)
    have g := h d (List.mem_cons_self ..)
    refine ⟨by rw [PyData.canLayAll0, g.lay, a]; rfl, by rw [PyData.depthAll]; exact Nat.max_le.mpr ⟨g.dep, b⟩, ?_, by rw [PyData.intsShortAll, g.its, e]; rfl, by rw [PyData.showableAll, g.sho, f]; rfl⟩
    have w := g.wgt
    rw [PyData.weightAll, List.length_cons, Nat.succ_mul]
    omega
theorem gd_tup {k W L : Nat} {ds : List PyData} (h : ∀ d ∈ ds, Gd k W d) (l : ds.length ≤ L) : Gd (k + 1) (L * (W + 1)) (.tuple ds) := by
  obtain ⟨a, b, c, e, f⟩ := gd_all h
  exact ⟨by rw [PyData.canLay0]; exact a, by rw [PyData.depth]; omega, by rw [PyData.weight]; exact Nat.le_trans c (Nat.mul_le_mul_right _ l), by rw [PyData.intsShort]; exact e, by rw [PyData.showable]; exact f⟩
theorem gd_lst {k W L : Nat} {ds : List PyData} (h : ∀ d ∈ ds, Gd k W d) (l : ds.length ≤ L) : Gd (k + 1) (L * (W + 1)) (.list ds) := by
  obtain ⟨a, b, c, e, f⟩ := gd_all h
  exact ⟨by rw [PyData.canLay0]; exact a, by rw [PyData.depth]; omega, by rw [PyData.weight]; exact Nat.le_trans c (Nat.mul_le_mul_right _ l), by rw [PyData.intsShort]; exact e, by rw [PyData.showable]; exact f⟩
theorem Gd.len {k W : Nat} {d : PyData} (h : Gd k W d) (a : k ≤ 60) (b : W ≤ 1000000) : d.shown.length ≤ sizeLine := by
  have w := h.wgt
  have dp := h.dep
  have l0 : d.layable0 = true := by
    show (d.canLay0 && decide (d.depth ≤ 64) && decide (d.weight ≤ 2 ^ 20)) = true
    have e : (2 : Nat) ^ 20 = 1048576 := by decide
    rw [h.lay, decide_eq_true (show d.depth ≤ 64 by omega), decide_eq_true (show d.weight ≤ 2 ^ 20 by omega)]
    rfl
  have z := shown_le13 l0 h.its
  rw [sizeLine_eq]
  omega
theorem Gd.shaped {k W : Nat} {d : PyData} (h : Gd k W d) (a : k ≤ 60) : SeqAt.shaped d = true := by
  have dp := h.dep
  show (d.canLay0 && decide (d.depth ≤ 64)) = true
  rw [h.lay, decide_eq_true (show d.depth ≤ 64 by omega)]
  rfl
/-! things of the hand layer as data -/
section
variable {K : PySem.W.Frag} {H : Hp}
def dN (ns : List Nat) : PyData := .tuple (ns.map fun n => .int ((n : Nat) : Int))
theorem dps_nats : ∀ ns : List Nat, DpAll K H (ns.map vi) (ns.map fun n => .int ((n : Nat) : Int))
  | [] => .nil
  | n :: ns => .cons (.int _) (dps_nats ns)
theorem Nats.dp {v : V} {ns : List Nat} (h : Nats K H v ns) : Dp K H v (dN ns) := by
  obtain ⟨a, e, s⟩ := h
  subst e
  exact .tup s (dps_nats ns)
theorem dps_paired {β : Type} {R : V → β → Prop} {f : β → PyData} (h : ∀ v b, R v b → Dp K H v (f b)) : ∀ {vs : List V} {bs : List β}, Paired R vs bs → DpAll K H vs (bs.map f)
  | [], [], .nil => .nil
  | _ :: _, _ :: _, .cons r p => .cons (h _ _ r) (dps_paired h p)
def dM (n : Nat) (ts : List (List Nat)) : PyData := .tuple [.int (n : Int), .tuple (ts.map dN)]
theorem Mdl.dp {v : V} {n : Nat} {ts : List (List Nat)} (h : Mdl K H v n ts) : Dp K H v (dM n ts) := by
  obtain ⟨a, u, e, s, b, vs, e2, s2, p⟩ := h
  subst e e2
  exact .tup s (.cons (.int _) (.cons (.tup s2 (dps_paired (fun _ _ z => Nats.dp z) p)) .nil))
def dS (sg : List (Str × Nat)) : PyData := .tuple (sg.map fun p => .tuple [.str p.1, .int ((p.2 : Nat) : Int)])
theorem Sig.dp {v : V} {sg : List (Str × Nat)} (h : Sig K H v sg) : Dp K H v (dS sg) := by
  obtain ⟨a, vs, e, s, p⟩ := h
  subst e
  refine .tup s (dps_paired (fun v q z => ?_) p)
  obtain ⟨b, e, s⟩ := z
  subst e
  exact .tup s (.cons (.str _) (.cons (.int _) .nil))
end
end Dw
end
section
/-! dict(a tuple of pairs), the tuple told with its own object -/
namespace Dw
open PySem PySem.Spec PyProof.Rows L2 Evl
section
variable {X : Cx}
/-- the pairs of tracked tuples: their values, and what they are as keys -/
theorem pairs_vals {pins : List (Addr × Obj)} {σ : L2.St} {H : Hp} {s : Shared} (I : Inv X pins σ H s) : ∀ {ps : List Addr} {kvs : List (Key × V)}, Paired (fun p kv => SqT X.K H p [kV kv.1, kv.2]) ps kvs →
    ∃ (kl : List (Value × Value)) (prs : List (Key × Value)), KV kvs prs ∧ kl.length = ps.length ∧ prs.length = ps.length ∧ ∀ (j : Nat) (b : Addr), ps[j]? = some b → ∃ k v key, kl[j]? = some (k, v) ∧ prs[j]? = some (key, v) ∧ s.heap.IsTuple b #[k, v] ∧ (mixKind X.prog X.w).is key k = true
  | [], [], .nil => ⟨[], [], .nil, rfl, rfl, fun j b e => by rw [List.getElem?_nil] at e; cases e⟩
  | p :: ps, kv :: kvs, .cons here rest => by
    obtain ⟨kl, prs, rel, l1, l2, each⟩ := pairs_vals I rest
    obtain ⟨cells, rc, tup, _⟩ := I.tuple here
    obtain ⟨u, y, isTwo, ru, ry⟩ := vals2 rc
    subst isTwo
    refine ⟨(u, y) :: kl, (kv.1, y) :: prs, .cons ⟨rfl, ry⟩ rel, by rw [List.length_cons, List.length_cons, l1], by rw [List.length_cons, List.length_cons, l2], fun j b e => ?_⟩
    match j, e with
    | 0, e =>
      cases Option.some.inj (show some p = some b from e)
      exact ⟨u, y, kv.1, rfl, rfl, tup, kV_is (P := X.prog) (w := X.w) ru⟩
    | j + 1, e => exact each j b e
def rDictT (K : PySem.W.Frag) : List V → Hp → VK → Prop := fun xs H Q => ∃ (a : Addr) (o : Obj) (ps : List Addr) (kvs : List (Key × V)), xs = [.ref a] ∧ H a = some (.frz o (.tup (ps.map V.ref))) ∧ o.dict = none ∧
  Paired (fun p kv => SqT K H p [kV kv.1, kv.2]) ps kvs ∧ ∀ p, H p = none → Q (.ref p) (upd H p (.dK (mergeK [] kvs)))
theorem call_dictT (calm : X.calm = true) : CallR X (.type "dict") (rDictT X.K) := by
  intro pins s σ H vs us Q I rel want
  obtain ⟨a, o, ps, kvs, one, ha, hd, pairs, q⟩ := want
  subst one
  obtain ⟨u, isU, ru⟩ := vals1 rel
  subst isU
  cases (show u = Value.ref a from ru)
  have held : ObjOk X.prog X.w H s.heap a (.frz o (.tup (ps.map V.ref))) := I.hok a _ ha
  obtain ⟨at_, small, its, relI, o2, at2, cls, cap, dat⟩ := held
  rw [at_] at at2
  cases at2
  have isRefs := refs_at relI
  subst isRefs
  rw [List.length_map] at small
  obtain ⟨kl, prs, kv, lenK, lenP, each⟩ := pairs_vals I pairs
  have calm' : X.A.in1.handled = none := I.ok.hd calm
  have items : PairItems s.heap (ps.map Value.ref).toArray (fun j => ps.getD j 0) kl := by
    refine ⟨by rw [List.size_toArray, List.length_map, lenK], fun j k v hj => ?_⟩
    have jl : j < ps.length := by rw [← lenK]; exact (List.getElem?_eq_some_iff.mp hj).1
    obtain ⟨k1, v1, key, e1, _, tup, _⟩ := each j _ (List.getElem?_eq_getElem jl)
    rw [hj] at e1
    cases Option.some.inj e1
    have eb : ps.getD j 0 = ps[j] := by rw [List.getD_eq_getElem?_getD, List.getElem?_eq_getElem jl]; rfl
    refine ⟨?_, ?_⟩
    · show (ps.map Value.ref).toArray[j]? = some (.ref (ps.getD j 0))
      rw [List.getElem?_toArray, List.getElem?_map, List.getElem?_eq_getElem jl, eb]
      rfl
    · show PairAt s.heap (ps.getD j 0) k v
      rw [eb]
      exact .inl tup
  have have_ : PairsHave (mixKind X.prog X.w) kl.length (PairRel kl) prs := by
    refine ⟨by rw [lenP, lenK], fun j k v hj => ?_⟩
    have jl : j < ps.length := by rw [← lenK]; exact (List.getElem?_eq_some_iff.mp hj).1
    obtain ⟨k1, v1, key, e1, e2, _, is⟩ := each j _ (List.getElem?_eq_getElem jl)
    have e1' : kl[j]? = some (k, v) := hj
    rw [e1'] at e1
    cases Option.some.inj e1
    exact ⟨key, e2, is⟩
  refine PySem.call_dict_pairs (knd := mixKind X.prog X.w) (kvs := prs) (PairArg.tuple a (ps.map Value.ref).toArray (fun j => ps.getD j 0) kl) calm' ⟨⟨_, cap, at_, cls, hd, dat⟩, items⟩ have_ (by rw [lenK]; exact small) fun h' tk isD same => ?_
  have far : (s.heap.objs.size == sysModules) = false := beq_eq_false_iff_ne.mpr (Nat.ne_of_gt I.big)
  have fits : (mergeK [] kvs).length ≤ sizeLine := by
    have l1 := length_mergeK kvs []
    have l2 := kv.length
    rw [List.length_nil] at l1
    omega
  have new : ObjOk X.prog X.w (upd H s.heap.objs.size (.dK (mergeK [] kvs))) h' s.heap.objs.size (.dK (mergeK [] kvs)) := ⟨fits, far, merged [] prs, KV.merge kv .nil, isD⟩
  exact ⟨.ref s.heap.objs.size, _, I.laid (t' := tk) (fun b ob e => same b ob (fun z => nomatch z) e) (Nat.le_refl s.heap.objs.size) new, rfl, q _ (I.hok.fresh (Nat.le_refl _))⟩
end
end Dw
end
section
/-! sets of texts, their table known well enough that they can be walked: add, set(a list), sorted -/
namespace Dw
open PySem PySem.Spec PyProof.Rows L2
/-- the text of an entry -/
def txtOf (e : Int × Value) : Str := match e.2 with | .str x _ => x | _ => Str.empty
def IsTxt (w : World) (e : Int × Value) : Prop := ∃ x tk, e.2 = Value.str x tk ∧ e.1 = hashStr w x
/-- a set at a whose members are the texts ks, each once, in the order in which they came -/
structure TxtSet (w : World) (h : Heap) (a : Addr) (ks : List Str) : Prop where
  ex : ∃ o es ep t, h.get? a = some o ∧ o.ExactSet ∧ o.data = .set es ep t ∧ (∀ e ∈ es.toList, IsTxt w e) ∧ (es.toList.map txtOf).Perm ks ∧ t.fits es.size = true ∧ Ris t.place.toList ∧ (w.params.followText "set-order" = true ∨ t.led = true)
  nd : ks.Nodup
  few : ks.length < scanBound
section
variable {P : Program} {w : World} {A : Around} {E : Value → Shared → Prop} {s : Shared} {a : Addr} {ks : List Str}
theorem TxtSet.at {h h' : Heap} (T : TxtSet w h a ks) (same : ∀ o, h.get? a = some o → h'.get? a = some o) : TxtSet w h' a ks := by
  obtain ⟨o, es, ep, t, at_, rest⟩ := T.ex
  exact ⟨⟨o, es, ep, t, same o at_, rest⟩, T.nd, T.few⟩
theorem elems_txt {l : List (Int × Value)} (g : ∀ e ∈ l, IsTxt w e) : ElemsOf (PySem.strKind P w) l := fun e he => by
  obtain ⟨x, tk, e1, e2⟩ := g e he
  exact ⟨⟨x, by rw [e1]; exact strKind_is P w x tk, e2⟩, by rw [e1]; rfl⟩
theorem is_txt {e : Int × Value} (g : IsTxt w e) (x : Str) : (PySem.strKind P w).is x e.2 = true ↔ txtOf e = x := by
  obtain ⟨y, tk, e1, _⟩ := g
  have t : txtOf e = y := by
    unfold txtOf
    rw [e1]
  rw [e1, t]
  constructor
  · intro z
    exact (PySem.strKind P w).inj _ _ _ (strKind_is P w y tk) z
  · intro z
    rw [z]
    exact strKind_is P w x tk
/-- what is stored behind a new entry, relaid where the table got too full -/
theorem txt_tail {ok : Bool → Sem Unit} (fine : ∀ (b : Bool) (s1 : Shared) (Q1 : Unit → Shared → Prop), Q1 () s1 → wpAny (model P w) A (ok b) Q1 E s1) {o : Obj} {es es1 : Array (Int × Value)} {ep : Nat} {t t1 : SetTable}
    (at_ : s.heap.get? a = some o) (exact_ : o.ExactSet) (dat : o.data = .set es ep t) (g : ∀ e ∈ es1.toList, IsTxt w e) (pm : (es1.toList.map txtOf).Perm ks) (nd : ks.Nodup) (few : ks.length < scanBound) (ft : t1.fits es1.size = true) (ri : Ris t1.place.toList)
    (ld : w.params.followText "set-order" = true ∨ t1.led = true) {dummy : Bool} {R : Option Bool → Shared → Prop} (next : ∀ h', Heap.SameBut a s.heap h' → TxtSet w h' a ks → R (some true) { s with heap := h' }) :
    wpAny (model P w) A (do
      storeSet a es1 t1
      if (!dummy && t1.tooFull) = true then do
        ok (relayAll t1 es1 (SetTable.grown es1.size)).2.2
        storeSet a (relayAll t1 es1 (SetTable.grown es1.size)).1 (relayAll t1 es1 (SetTable.grown es1.size)).2.1
        pure (some true)
      else pure (some true)) R E s := by
  have size1 : es1.size = ks.length := by
    have l := pm.length_eq
    rw [List.length_map, Array.length_toList] at l
    exact l
  refine wpAny_bind (wpAny_storeSet_of at_ dat ?_ (fits_of_scanBound (by rw [size1]; exact few)))
  have at1 := store_at (es' := es1) (t' := t1) at_ dat
  have but1 := Heap.SameBut.update s.heap a (Obj.putSet es1 t1)
  by_cases full : (!dummy && t1.tooFull) = true
  · rw [if_pos full]
    have perm2 := relayAll_perm t1 es1 (SetTable.grown es1.size)
    have fits2 := relayAll_fits t1 es1 (SetTable.grown es1.size)
    have ris2 := relayAll_ris t1 es1 (SetTable.grown es1.size)
    have led2 := relayAll_led t1 es1 (SetTable.grown es1.size)
    revert perm2 fits2 ris2 led2
    generalize relayAll t1 es1 (SetTable.grown es1.size) = re
    intro perm2 fits2 ris2 led2
    obtain ⟨es2, t2, gave⟩ := re
    have size2 : es2.size = ks.length := by
      have l := List.Perm.length_eq perm2
      rw [Array.length_toList, Array.length_toList] at l
      exact l.trans size1
    refine wpAny_bind (fine _ _ _ ?_)
    refine wpAny_bind (wpAny_storeSet_of at1 rfl ?_ (fits_of_scanBound (by rw [size2]; exact few)))
    have at2 := store_at (es' := es2) (t' := t2) at1 rfl
    refine wpAny_pure (next _ (but1.trans (Heap.SameBut.update _ a _)) ⟨⟨_, es2, _, t2, at2, exact_, rfl, fun e he => g e (List.Perm.mem_iff perm2 |>.mp he), (List.Perm.map txtOf perm2).trans pm, fits2, ris2, ?_⟩, nd, few⟩)
    have l2 : t2.led = t1.led := led2
    rw [l2]
    exact ld
  · rw [if_neg full]
    exact wpAny_pure (next _ but1 ⟨⟨_, es1, _, t1, at1, exact_, rfl, g, pm, ft, ri, ld⟩, nd, few⟩)
/-- a text put into it -/
theorem txt_add {x : Str} {tk : Tok} {Q : Bool → Shared → Prop} (T : TxtSet w s.heap a ks) (room : ks.length + 1 < scanBound)
    (next : ∀ h', Heap.SameBut a s.heap h' → TxtSet w h' a (if x ∈ ks then ks else ks ++ [x]) → Q (!decide (x ∈ ks)) { s with heap := h' }) :
    wpAny (model P w) A (setAddHashed a (.str x tk) ((PySem.strKind P w).hash x)) Q E s := by
  obtain ⟨o, es, ep, t, at_, exact_, dat, g, pm, ft, ri, ld⟩ := T.ex
  have size0 : es.size = ks.length := by
    have l := pm.length_eq
    rw [List.length_map, Array.length_toList] at l
    exact l
  have small : es.size < scanBound := by rw [size0]; exact T.few
  have elems : ElemsOf (PySem.strKind P w) es.toList := elems_txt g
  have scan : (Value.str x tk).scannable = true := rfl
  unfold setAddHashed setAddHashedIn
  refine wpAny_holding (wpAny_bind (wpAny_setState_of at_ dat ft ?_))
  dsimp only
  rw [byScan_of scan small elems]
  simp only [↓reduceIte]
  unfold setAddByScan
  refine wpAny_bind (wpAny_bind (wpAny_rule (wpAny_bind (wpAny_setScan_of (strKind_is P w x tk) at_ dat ft elems ?_))))
  cases found : List.findIdx? (fun e => (PySem.strKind P w).is x e.2) es.toList with
  | some j =>
    obtain ⟨jl, isx, _⟩ := List.findIdx?_eq_some_iff_getElem.mp found
    have mem : x ∈ ks := pm.mem_iff.mp (List.mem_map.mpr ⟨es.toList[j], List.getElem_mem jl, (is_txt (P := P) (g _ (List.getElem_mem jl)) x).mp isx⟩)
    have q := next s.heap (Heap.SameBut.refl a s.heap) (by rw [if_pos mem]; exact T)
    rw [decide_eq_true mem] at q
    dsimp only
    exact wpAny_pure (wpAny_pure q)
  | none =>
    have notMem : x ∉ ks := fun z => by
      obtain ⟨e, he, te⟩ := List.mem_map.mp (pm.mem_iff.mpr z)
      have no := List.findIdx?_eq_none_iff.mp found e he
      rw [(is_txt (P := P) (g e he) x).mpr te] at no
      cases no
    have fin : ∀ h', Heap.SameBut a s.heap h' → TxtSet w h' a (ks ++ [x]) → Q true { s with heap := h' } := fun h' but T' => by
      have q := next h' but (by rw [if_neg notMem]; exact T')
      rw [decide_eq_false notMem] at q
      exact q
    have nd1 : (ks ++ [x]).Nodup := (List.perm_append_singleton x ks).nodup_iff.mpr (List.nodup_cons.mpr ⟨notMem, T.nd⟩)
    have few1 : (ks ++ [x]).length < scanBound := by rw [List.length_append]; exact room
    have quiet : ∀ (b : Bool) (s1 : Shared) (Q1 : Unit → Shared → Prop), Q1 () s1 → wpAny (model P w) A (match b with | true => rule "set.scan.the-table-gave-way" | false => pure ()) Q1 E s1 := fun b s1 Q1 q => by
      cases b
      · exact wpAny_pure q
      · exact wpAny_rule q
    have perm1 := layNew_perm t es ((PySem.strKind P w).hash x) (.str x tk)
    have fits1 := layNew_fits t es ((PySem.strKind P w).hash x) (.str x tk)
    have ris1 := layNew_ris t es ((PySem.strKind P w).hash x) (.str x tk) ri
    have led1 := layNew_led t es ((PySem.strKind P w).hash x) (.str x tk)
    dsimp only
    generalize layNew t es ((PySem.strKind P w).hash x) (.str x tk) = new at perm1 fits1 ris1 led1 ⊢
    obtain ⟨es1, t1, dummy, gave⟩ := new
    dsimp only at perm1 fits1 ris1 led1 ⊢
    rw [Array.toList_push] at perm1
    have g1 : ∀ e ∈ es1.toList, IsTxt w e := fun e he => by
      rcases List.mem_append.mp (perm1.mem_iff.mp he) with old | one
      · exact g e old
      · rw [List.mem_singleton.mp one]
        exact ⟨x, tk, rfl, rfl⟩
    have pm1 : (es1.toList.map txtOf).Perm (ks ++ [x]) := by
      have q := perm1.map txtOf
      rw [List.map_append] at q
      exact q.trans (pm.append_right [x])
    have ld1 : w.params.followText "set-order" = true ∨ t1.led = true := by rw [led1]; exact ld
    refine wpAny_bind (quiet _ _ _ ?_)
    split
    · refine wpAny_bind ?_
      rw [hashByValue_scannable 8 scan]
      refine wpAny_pure ?_
      refine txt_tail quiet at_ exact_ dat g1 pm1 nd1 few1 ?_ ?_ ?_ fun h' but T' => ?_
      · first | (split <;> first | exact fits1 | exact SetTable.fits_plain_off fits1) | exact fits1
      · first | (split <;> exact ris1) | exact ris1
      · first | (split <;> exact ld1) | exact ld1
      · exact wpAny_pure (fin h' but T')
    · refine wpAny_bind (wpAny_pure ?_)
      simp only [↓reduceIte]
      exact txt_tail quiet at_ exact_ dat g1 pm1 nd1 few1 fits1 ris1 ld1 fun h' but T' => wpAny_pure (fin h' but T')
end
end Dw
end
section
namespace Dw
open PySem PySem.Spec PyProof.Rows L2
/-- x behind them, where it isn't among them -/
def addK (ks : List Str) (x : Str) : List Str := if x ∈ ks then ks else ks ++ [x]
/-- each once, as they first come -/
def firsts (xs : List Str) : List Str := xs.foldl addK []
theorem addK_len (ks : List Str) (x : Str) : (addK ks x).length ≤ ks.length + 1 := by
  unfold addK
  split
  · exact Nat.le_succ _
  · rw [List.length_append]
    exact Nat.le_refl _
theorem fold_len : ∀ (xs ks : List Str), (xs.foldl addK ks).length ≤ ks.length + xs.length
  | [], ks => Nat.le_refl _
  | x :: xs, ks => by
    have a := fold_len xs (addK ks x)
    have b := addK_len ks x
    rw [List.foldl_cons, List.length_cons]
    omega
theorem firsts_len (xs : List Str) : (firsts xs).length ≤ xs.length := by
  have a := fold_len xs []
  rw [List.length_nil, Nat.zero_add] at a
  exact a
theorem firsts_take {xs : List Str} {i : Nat} {x : Str} (h : xs[i]? = some x) : firsts (xs.take (i + 1)) = addK (firsts (xs.take i)) x := by
  unfold firsts
  rw [List.take_add_one, h, List.foldl_append]
  rfl
theorem mem_fold {y : Str} : ∀ (xs ks : List Str), y ∈ xs.foldl addK ks ↔ y ∈ ks ∨ y ∈ xs
  | [], ks => by simp
  | x :: xs, ks => by
    rw [List.foldl_cons, mem_fold xs, List.mem_cons]
    unfold addK
    split
    · rename_i h
      constructor
      · rintro (a | a)
        · exact .inl a
        · exact .inr (.inr a)
      · rintro (a | a | a)
        · exact .inl a
        · exact .inl (a ▸ h)
        · exact .inr a
    · rw [List.mem_append, List.mem_singleton]
      constructor
      · rintro ((a | a) | a)
        · exact .inl a
        · exact .inr (.inl a)
        · exact .inr (.inr a)
      · rintro (a | a | a)
        · exact .inl (.inl a)
        · exact .inl (.inr a)
        · exact .inr a
theorem mem_firsts {xs : List Str} {y : Str} : y ∈ firsts xs ↔ y ∈ xs := by
  unfold firsts
  rw [mem_fold]
  simp
section
variable {P : Program} {w : World} {A : Around} {E : Value → Shared → Prop} {s : Shared}
/-- set.update's loop over texts -/
theorem txt_loop {I S : Addr} {fp wr : List Addr} {G : Array GenState → Array GenState → Prop} {n : Nat} {Pv : Nat → Value → Prop} {St : Nat → Shared → Prop} {R : Result → Shared → Prop} (W : WalksS P w A.in1 I fp wr G n Pv St) (off : S ∉ fp) (xs : List Str) (len : n = xs.length)
    (few : xs.length < 1000) (vals : ∀ i v, Pv i v → ∃ x tk, xs[i]? = some x ∧ v = .str x tk) :
    ∀ (left i : Nat) (s : Shared), n - i = left → i ≤ n → St i s → TxtSet w s.heap S (firsts (xs.take i)) → (∀ s', Moved (S :: wr) G s s' → TxtSet w s'.heap S (firsts xs) → R (.ok (.ret .none)) s') →
      codeAny (model P w) A (.builtin "set.update.loop" ⟨[.ref S, .ref I], []⟩) R s := by
  have offW : S ∉ wr := fun z => off (W.sub _ z)
  intro left
  induction left with
  | zero =>
    intro i s e le st T end_
    have all : i = n := by omega
    subst all
    refine codeAny_builtin F.entry_set_update_loop ?_
    rw [Around.under_plainId F.plain_set_update_loop _]
    refine wpAny_bind (m := pyNext (.ref I)) (W.done s _ _ st fun s1 mv => ?_)
    refine wpAny_pure (end_ s1 (mv.mono fun b hb => List.mem_cons_of_mem _ hb) ?_)
    rw [len, List.take_length] at T
    exact T.at fun o q => mv.heap S o offW q
  | succ left ih =>
    intro i s e le st T end_
    have lt : i < n := by omega
    refine codeAny_builtin F.entry_set_update_loop ?_
    rw [Around.under_plainId F.plain_set_update_loop _]
    refine wpAny_bind (m := pyNext (.ref I)) (W.item i s _ _ lt st fun v s1 pv st1 mv => ?_)
    obtain ⟨x, tk, hx, isx⟩ := vals i v pv
    subst isx
    have T1 : TxtSet w s1.heap S (firsts (xs.take i)) := T.at fun o q => mv.heap S o offW q
    have l1 : (firsts (xs.take i)).length ≤ i := Nat.le_trans (firsts_len _) (List.length_take_le _ _)
    have room : (firsts (xs.take i)).length + 1 < scanBound := by
      show _ < 4096
      omega
    show wpAny _ A.in1 (holding [Value.str x tk] (setAdd S (.str x tk)) >>= _) _ _ s1
    refine wpAny_bind (wpAny_holding ?_)
    unfold setAdd
    refine wpAny_holding (wpAny_bind ((PySem.strKind P w).pyHash (strKind_is P w x tk) ?_))
    refine txt_add (s := { s1 with toks := s1.toks + 1 }) T1 room fun h' but T2 => ?_
    have T3 : TxtSet w h' S (firsts (xs.take (i + 1))) := by
      rw [firsts_take hx]
      exact T2
    refine wpAny_pure ⟨plainId_quiet F.plain_set_update_loop _, ih (i + 1) _ (by omega) lt (W.frame _ s1 _ _ st1 (Nat.le_add_right _ _) fun b hb o q => ?_) T3 fun s2 mv2 T4 => ?_⟩
    · rw [but.2 b (fun z : b = S => off (z ▸ hb))]
      exact q
    · refine end_ s2 (Moved.trans W.gtrans ((mv.mono fun b hb => List.mem_cons_of_mem _ hb).then_heap (Nat.le_add_right _ _) fun b o nb q => ?_) mv2) T4
      rw [but.2 b (fun z : b = S => nb (z ▸ List.mem_cons_self ..))]
      exact q
/-- the new set as set() lays it -/
abbrev newSet (w : World) : Obj := { cls := .type "set", dict := none, data := .set #[] 0 (.fresh 0 0 (!w.params.followText "set-order")) }
theorem txt_fresh {h : Heap} {a : Addr} (at_ : h.get? a = some (newSet w)) : TxtSet w h a [] := by
  refine ⟨⟨_, #[], 0, _, at_, ⟨rfl, rfl, rfl⟩, rfl, fun e he => by simp at he, .nil, rfl, List.Pairwise.nil, ?_⟩, List.nodup_nil, by decide⟩
  show _ ∨ (!w.params.followText "set-order") = true
  cases w.params.followText "set-order"
  · exact .inr rfl
  · exact .inl rfl
/-- set(a list of texts) -/
theorem call_setX {l : Addr} {cells : Array Value} {xs : List Str} {Q : Value → Shared → Prop} (calm : A.handled = none) (isL : s.heap.IsList l cells) (txts : StrsAre cells.toList xs) (few : xs.length < 1000)
    (next : ∀ (h' : Heap) (tk : Nat), TxtSet w h' s.heap.objs.size (firsts xs) → (∀ b o, s.heap.get? b = some o → h'.get? b = some o) → Q (.ref s.heap.objs.size) { s with heap := h', toks := tk }) :
    wpAny (model P w) A (call (.type "set") [.ref l]) Q E s := by
  have size : cells.size = xs.length := by
    have z := txts.length
    rw [Array.length_toList] at z
    exact z
  obtain ⟨c, tl, isMro⟩ := F.called_set.mro
  have made := F.called_set.made
  have under := F.called_set.sub
  refine wpAny_call (codeAny_of_tree ?_)
  show wpAny _ _ (callAny (.type "set") _) _ _ _
  refine wpAny_pure ⟨Code.quiet_builtin _ (by decide +kernel), codeAny_builtin F.entry_type_call ?_⟩
  rw [Around.under_plain (weight_type_call_type "set" [.ref l] []) rfl]
  have k1 := F.called_set.notType
  have k2 := F.called_set.canCreate
  have k3 := F.typeCall_set_1 (.ref l)
  repeat (any_goals (first | assumption | wp_step))
  refine codeAny_mono (code_set_led1 (.ref l) (E := E) (Q₁ := fun ob s1 => ob = .ref s.heap.objs.size ∧ s1 = { s with heap := s.heap.push (newSet w) }) ⟨rfl, rfl⟩) fun r s1 done => ?_
  match r, done with
  | .error _, bad => exact bad
  | .ok .next, bad => exact bad.elim
  | .ok .brk, bad => exact bad.elim
  | .ok .cont, bad => exact bad.elim
  | .ok (.ret ob), both =>
    obtain ⟨e1, e2⟩ := both
    subst e1
    subst e2
    have atS : (s.heap.push (newSet w)).get? s.heap.objs.size = some (newSet w) := Heap.get?_push_size _ rfl
    have isS : Shared.TypeIs { s with heap := s.heap.push (newSet w) } (.ref s.heap.objs.size) "set" := ⟨_, atS, rfl⟩
    have i1 := F.called_set.init.lookup
    have i2 := F.called_set.init.bind (.ref s.heap.objs.size)
    repeat (any_goals (first | assumption | wp_step))
    refine codeAny_mono (codeAny_call_builtin (R := wants (fun r s2 => r = .none ∧ ∃ h' tk, s2 = { s with heap := h', toks := tk } ∧ TxtSet w h' s.heap.objs.size (firsts xs) ∧ ∀ b o, s.heap.get? b = some o → h'.get? b = some o) E) F.called_set.init.plain F.entry_set_init (check_set_init_1 isS ?_)) fun r2 s2 done2 => ?_
    · obtain ⟨⟨cl, dc, dat, sl⟩, atL, isCls, cap, isSeq⟩ := isL
      have c1 : cl = .type "list" := isCls
      have c2 : dat = .seq cells cap := isSeq
      subst c1
      subst c2
      have atL1 : (s.heap.push (newSet w)).get? l = some { cls := .type "list", dict := dc, data := .seq cells cap, slots := sl } := Heap.get?_push_of_some _ atL
      have n1 := F.sub_list_set
      have n2 := F.sub_list_frozenset
      have n3 : (Value.type "list" == Value.type "dict") = false := by decide
      have isL1 : (s.heap.push (newSet w)).IsList l cells := ⟨_, atL1, rfl, cap, rfl⟩
      unfold Builtin.«set.__init__» noKeywords Builtin.Frozenset.updateFrom
      generalize isIter : pyIter = iter_
      wp_walk
      subst isIter
      refine wpAny_pyIter_list isL1 (wpAny_bind (wpAny_runValue ?_))
      have inL : l < s.heap.objs.size := Heap.lt_size atL
      have size1 : (s.heap.push (newSet w)).objs.size = s.heap.objs.size + 1 := Heap.size_push ..
      have far : l ≠ (s.heap.push (newSet w)).objs.size := by
        rw [size1]
        exact Nat.ne_of_lt (Nat.lt_succ_of_lt inL)
      have off : s.heap.objs.size ∉ [(s.heap.push (newSet w)).objs.size, l] := fun z => by
        rw [size1] at z
        rcases List.mem_cons.mp z with y | y
        · exact absurd y (Nat.ne_of_lt (Nat.lt_succ_self _))
        · exact absurd (List.mem_singleton.mp y) (Nat.ne_of_gt inL)
      have calm3 : A.in1.in1.in1.handled = none := calm
      have vals : ∀ (i : Nat) (v : Value), cells[i]? = some v → ∃ x tk, xs[i]? = some x ∧ v = .str x tk := fun i v hv => by
        have q : cells.toList[i]? = some v := by rw [Array.getElem?_toList]; exact hv
        have il : i < xs.length := by
          have z := (List.getElem?_eq_some_iff.mp q).1
          rw [Array.length_toList, size] at z
          exact z
        obtain ⟨tk, e⟩ := SS.strs_at txts i v q
        refine ⟨xs.getD i Str.empty, tk, ?_, e⟩
        rw [List.getD_eq_getElem?_getD, List.getElem?_eq_getElem il]
        rfl
      refine txt_loop ((Walks.list calm3 _ l far cells).toS) off xs size few vals (cells.size - 0) 0 _ (by omega) (Nat.zero_le _) ⟨⟨_, Heap.get?_push_size _ rfl, rfl, rfl⟩, isL1.push _⟩ (txt_fresh (Heap.get?_push_of_some _ atS)) fun s3 mv T => ?_
      obtain ⟨h3, g3, d3, tk3, os3⟩ := s3
      have q1 : g3 = s.gens := mv.gens
      have q2 : d3 = s.drawn := mv.drawn
      have q3 : os3 = s.os := mv.os
      subst q1
      subst q2
      subst q3
      refine wpAny_pure (wpAny_pure ⟨rfl, h3, tk3, rfl, T, fun b o e => ?_⟩)
      have lb := Heap.lt_size e
      refine mv.heap b o (fun z => ?_) (Heap.get?_push_of_some _ (Heap.get?_push_of_some _ e))
      rcases List.mem_cons.mp z with y | y
      · exact absurd y (Nat.ne_of_lt lb)
      · have y2 := List.mem_singleton.mp y
        rw [size1] at y2
        exact absurd y2 (Nat.ne_of_lt (Nat.lt_succ_of_lt lb))
    · match r2, done2 with
      | .error _, bad => exact bad
      | .ok .next, bad => exact bad.elim
      | .ok .brk, bad => exact bad.elim
      | .ok .cont, bad => exact bad.elim
      | .ok (.ret _), good =>
        obtain ⟨e1, h', tk, e2, T, kept⟩ := good
        subst e1
        subst e2
        repeat (any_goals (first | assumption | wp_step))
        exact next h' tk T kept
end
end Dw
end
section
/-! rules over sets of texts: set(a list), sorted(the set) -/
namespace Dw
open PySem PySem.Spec PyProof.Rows L2
section
variable {P : Program} {w : World} {A : Around} {E : Value → Shared → Prop} {s : Shared} {a : Addr} {ks : List Str}
theorem strs_txt : ∀ {l : List Value}, (∀ v ∈ l, ∃ x tk, v = Value.str x tk) → ∃ xs, StrsAre l xs
  | [], _ => ⟨[], .nil⟩
  | v :: l, h => by
    obtain ⟨xs, r⟩ := strs_txt (l := l) fun u hu => h u (List.mem_cons_of_mem _ hu)
    obtain ⟨x, tk, e⟩ := h v (List.mem_cons_self ..)
    subst e
    exact ⟨x :: xs, .cons x tk r⟩
theorem strs_map {l : List Value} {xs : List Str} (h : StrsAre l xs) : l.map (fun v => txtOf (0, v)) = xs := by
  induction h with
  | nil => rfl
  | cons x tk _ ih =>
    rw [List.map_cons, ih]
    rfl
theorem sorted_txts {Q : Value → Shared → Prop} (T : TxtSet w s.heap a ks) (calm : A.handled = none) (few : ks.length < 64)
    (next : ∀ (s' : Shared) (p : Addr) (out : Array Value) (cap : Nat) (ys : List Str), (∀ b o, s.heap.get? b = some o → s'.heap.get? b = some o) → s'.gens = s.gens → s'.os = s.os → s.heap.objs.size ≤ p → s'.heap.get? p = some (seqObj "list" out cap) → StrsAre out.toList ys → ys.Perm ks → sortedS ys = true → Q (.ref p) s') :
    wpAny (model P w) A (call (.builtin "sorted") [.ref a]) Q E s := by
  obtain ⟨o, es, ep, t, at_, exact_, dat, g, pm, ft, ri, ld⟩ := T.ex
  have size : es.size = ks.length := by
    have l := pm.length_eq
    rw [List.length_map, Array.length_toList] at l
    exact l
  refine Calls.call_function_entry kind_sorted plain_sorted entry_sorted (args_sorted1 _) ?_
  unfold Builtin.«sorted»
  refine wpAny_bind (m := checkCount "sorted" 1 1 _) (wpAny_pure ?_)
  refine wpAny_bind (collect_set (A := A.in1) calm ⟨o, at_, exact_.1, dat⟩ ft (by rw [size]; exact T.few) ri ld fun s1 vs kept more g1 o1 perm => ?_)
  have lenV : vs.length = ks.length := by
    rw [perm.length_eq, List.length_map, Array.length_toList]
    exact size
  obtain ⟨xs, isX⟩ := strs_txt (l := vs) fun v hv => by
    obtain ⟨e, he, q⟩ := List.mem_map.mp (perm.mem_iff.mp hv)
    obtain ⟨x, tk, e1, _⟩ := g e he
    exact ⟨x, tk, by rw [← q]; exact e1⟩
  have permX : xs.Perm ks := by
    have q := perm.map (fun v => txtOf (0, v))
    rw [strs_map isX, List.map_map] at q
    exact q.trans pm
  refine wpAny_bind (wpAny_newList ?_ (by rw [lenV, sizeLine_eq]; omega))
  have atL : (s1.heap.push (seqObj "list" vs.toArray 0)).get? s1.heap.objs.size = some (seqObj "list" vs.toArray 0) := Heap.get?_push_size _ rfl
  refine wpAny_bind (wpAny_holding (wpAny_call_entry slot_list_sort ⟨_, atL, rfl⟩ entry_list_sort (list_sort_treeK PyProof.Rows.strKind_oneLt atL isX.keysOf (fun v1 v2 rest e => keyKind_strs (by rw [← e]; exact isX)) (by rw [lenV]; exact few) fun st p1 p2 => ⟨_, rfl, ?_⟩) (args_list_sort _)))
  obtain ⟨ys, y1, y2, y3⟩ := sorted_out_str isX p1 p2
  obtain ⟨cap, atP⟩ := sortedHeap_at (vs := vs) (out := (arrOf st).map (·.2)) atL
  refine wpAny_pure ⟨_, rfl, next _ s1.heap.objs.size _ cap ys (fun b u e => ?_) g1 o1 more atP y1 (y2.trans permX) y3⟩
  have e1 := kept b u e
  have lt := Heap.lt_size e1
  show (sortedHeap (s1.heap.push (seqObj "list" vs.toArray 0)) s1.heap.objs.size vs _).get? b = some u
  rw [sortedHeap_old (Nat.ne_of_lt lt) (by rw [size_push']; exact Nat.lt_succ_of_lt lt)]
  exact Heap.get?_push_of_some _ e1
end
/-- the set of texts at a -/
def TxtO (w : World) (a : Addr) (ks : List Str) : HO := .ext fun h => TxtSet w h a ks
section
variable {X : Cx}
theorem txtO_new {w : World} {P : Program} {H : Hp} {h : Heap} {a : Addr} {ks : List Str} (T : TxtSet w h a ks) : ObjOk P w H h a (TxtO w a ks) := by
  obtain ⟨o, _, _, _, at_, _⟩ := T.ex
  exact ⟨T, ⟨o, at_⟩, fun _ _ p k => p.at k⟩
def rSetX (K : PySem.W.Frag) (w : World) : List V → Hp → VK → Prop := fun vs H Q => ∃ (l : Addr) (xs : List Str), vs = [.ref l] ∧ SqL K H l (xs.map V.str) ∧ xs.length < 1000 ∧ ∀ p, H p = none → Q (.ref p) (upd H p (TxtO w p (firsts xs)))
theorem cr_setX (calm : X.calm = true) : CallR X (.type "set") (rSetX X.K X.w) := by
  intro pins s σ H vs us Q I rel want
  obtain ⟨l, xs, one, isL, few, q⟩ := want
  subst one
  obtain ⟨u, isU, ru⟩ := vals1 rel
  subst isU
  cases (show u = Value.ref l from ru)
  obtain ⟨its, rv, at_, _⟩ := I.list isL
  have txts : StrsAre its.toArray.toList xs := rv.strs
  refine call_setX (I.ok.hd calm) at_.isList txts few fun h' tk T kept => ?_
  exact ⟨.ref s.heap.objs.size, _, I.laid (t' := tk) kept (Nat.le_refl s.heap.objs.size) (txtO_new T), rfl, q _ (I.hok.fresh (Nat.le_refl _))⟩
def rSortX (w : World) : List V → Hp → VK → Prop := fun vs H Q => ∃ (a : Addr) (ks : List Str), vs = [.ref a] ∧ H a = some (TxtO w a ks) ∧ ks.length < 64 ∧ ∀ (ys : List Str) (p : Addr), ys.Perm ks → sortedS ys = true → H p = none → Q (.ref p) (upd H p (.lst (ys.map V.str)))
theorem cr_sortX (calm : X.calm = true) : CallR X (.builtin "sorted") (rSortX X.w) := by
  intro pins s σ H vs us Q I rel want
  obtain ⟨a, ks, one, ha, few, q⟩ := want
  subst one
  have T : TxtSet X.w s.heap a ks := (I.hok a _ ha).1
  rw [Vals.ref1 rel]
  refine sorted_txts T (I.ok.hd calm) few fun s' p out cap ys kept g o more at_ txts perm sorted => ?_
  have small : (ys.map V.str).length ≤ sizeLine := by
    rw [List.length_map, perm.length_eq, sizeLine_eq]
    omega
  have new : H p = none := I.hok.fresh more
  obtain ⟨h2, g2, d2, tk2, os2⟩ := s'
  have eg : g2 = s.gens := g
  have eo : os2 = s.os := o
  subst eg
  subst eo
  have J : Inv X pins σ (upd H p (.lst (ys.map V.str))) { s with heap := h2, drawn := d2, toks := tk2 } :=
    I.call (ch := []) (Un.laid kept more new) (I.hok.laid kept more ⟨small, out.toList, cap, vals_of_strs txts, at_⟩) I.bare (fun _ z => nomatch z)
  exact ⟨.ref p, _, J, rfl, q ys p perm sorted new⟩
end
end Dw
end
section
/-! a tuple turned about, t[::-1]; a list made longer by a tuple -/
namespace Dw
open PySem PySem.Spec PyProof.Rows L2
theorem adj_rev (n : Nat) : Builtin.Slice.sliceAdjust none none (-1) (n : Int) = ((n : Int) - 1, -1) := by
  unfold Builtin.Slice.sliceAdjust
  simp
theorem plc_rev (n : Nat) : Builtin.Slice.slicePlaces ((n : Int) - 1) (-1) (-1) = n := by
  unfold Builtin.Slice.slicePlaces
  simp
  omega
theorem fm_map {α β : Type} {f : α → Option β} {g : α → β} : ∀ {l : List α}, (∀ m ∈ l, f m = some (g m)) → l.filterMap f = l.map g
  | [], _ => rfl
  | m :: l, h => by
    rw [List.filterMap_cons, h m (List.mem_cons_self ..), List.map_cons, fm_map fun x hx => h x (List.mem_cons_of_mem _ hx)]
theorem pick_rev (xs : List Value) : ((List.range xs.length).filterMap fun (m : Nat) => xs.toArray[(((xs.length : Int) - 1) + (m : Int) * (-1)).toNat]?) = xs.reverse := by
  have all : ∀ m ∈ List.range xs.length, xs.toArray[(((xs.length : Int) - 1) + (m : Int) * (-1)).toNat]? = some (xs.getD (xs.length - 1 - m) .none) := fun m hm => by
    have lt := List.mem_range.mp hm
    have e : (((xs.length : Int) - 1) + (m : Int) * (-1)).toNat = xs.length - 1 - m := by omega
    rw [e, List.getElem?_toArray, List.getD_eq_getElem?_getD, List.getElem?_eq_getElem (by omega)]
    rfl
  have eq : (List.range xs.length).filterMap (fun (m : Nat) => xs.toArray[(((xs.length : Int) - 1) + (m : Int) * (-1)).toNat]?) = (List.range xs.length).map fun m => xs.getD (xs.length - 1 - m) .none := by
    exact fm_map all
  rw [eq]
  apply List.ext_getElem?
  intro i
  by_cases hi : i < xs.length
  · rw [List.getElem?_map, List.getElem?_range hi, List.getElem?_reverse hi, List.getElem?_eq_getElem (by omega)]
    show some (xs.getD (xs.length - 1 - i) .none) = _
    rw [List.getD_eq_getElem?_getD, List.getElem?_eq_getElem (by omega)]
    rfl
  · rw [List.getElem?_eq_none_iff.mpr (by simp; omega), List.getElem?_eq_none_iff.mpr (by simp; omega)]
section
variable {P : Program} {w : World} {A : Around} {E : Value → Shared → Prop} {s : Shared}
theorem applied_rev {sl : Addr} {vl vu vs : Value} {n : Nat} {Q : Int × Int × Nat → Shared → Prop} (isS : s.heap.IsSliceOf sl vl vu vs) (pl : IsPart vl none) (pu : IsPart vu none) (ps : IsPart vs (some (-1))) (next : Q ((n : Int) - 1, -1, n) s) :
    wpAny (model P w) A (Builtin.Slice.sliceApplied (.ref sl) (pure (n : Int))) Q E s := by
  obtain ⟨ob, at_, _, dat⟩ := id isS
  unfold Builtin.Slice.sliceApplied Builtin.Slice.sliceFields
  refine wpAny_bind (wpAny_bind (wpAny_field at_ dat (x := vl) rfl (wpAny_bind (wpAny_field at_ dat (x := vu) rfl (wpAny_bind (wpAny_field at_ dat (x := vs) rfl (wpAny_pure ?_)))))))
  refine wpAny_bind (HT.slicePart_ ps ?_)
  show wpAny _ _ (if ((-1 : Int) == 0) = true then _ else _) _ _ s
  rw [if_neg (by decide)]
  refine wpAny_bind (HT.slicePart_ pl (wpAny_bind (HT.slicePart_ pu (wpAny_bind (wpAny_pure ?_)))))
  show wpAny _ _ (match Builtin.Slice.sliceAdjust none none (-1) (n : Int) with | (lo, hi) => pure (lo, (-1 : Int), Builtin.Slice.slicePlaces lo hi (-1))) _ _ s
  rw [adj_rev]
  show wpAny _ _ (pure ((n : Int) - 1, (-1 : Int), Builtin.Slice.slicePlaces ((n : Int) - 1) (-1) (-1))) _ _ s
  rw [plc_rev]
  exact wpAny_pure next
theorem getItem_rev {tp sl : Addr} {xs : List Value} {vl vu vs : Value} {Q : Value → Shared → Prop} (isT : IsTup s.heap tp xs.toArray) (isS : s.heap.IsSliceOf sl vl vu vs) (pl : IsPart vl none) (pu : IsPart vu none) (ps : IsPart vs (some (-1)))
    (next : Q (.ref s.heap.objs.size) { s with heap := s.heap.push { cls := .type "tuple", data := .seq xs.reverse.toArray } }) (small : xs.length ≤ sizeLine) : wpAny (model P w) A (getItem (.ref tp) (.ref sl)) Q E s := by
  have fits : sizeOk (.seq xs.reverse.toArray) := by
    show xs.reverse.toArray.size ≤ sizeLine
    rw [List.size_toArray, List.length_reverse]
    exact small
  obtain ⟨ob, at_, cls, _⟩ := id isS
  have ty : s.TypeIs (.ref sl) "slice" := ⟨ob, at_, cls⟩
  unfold getItem
  try with_reducible refine wpAny_holding ?_
  first | refine wpAny_bind (wpAny_pure ?_) | skip
  refine wpAny_bind (wpAny_sequenceKey isT.typeIs (by decide) ?_)
  refine wpAny_bind (wpAny_callSpecial?_slot (name := Str.ofString "__getitem__") isT.typeIs PyProof.Rows.slot_tuple_getitem (wpAny_call_entry PyProof.Rows.slot_tuple_getitem isT.typeIs entry_tuple_getitem ?_ (args_tuple_getitem _ _)))
  show wpAny _ _ (Builtin.Tuple.tupleItemsOf (.ref tp) >>= _) _ _ s
  refine wpAny_bind (tupleItemsOf_ isT (wpAny_bind (wpAny_typeOf ty ?_)))
  rw [if_pos (by decide)]
  have size : xs.toArray.size = xs.length := List.size_toArray
  rw [size]
  refine wpAny_bind (applied_rev isS pl pu ps ?_)
  have no : ¬ ((((xs.length : Int) - 1) == 0 && (-1 : Int) == 1 && xs.length == xs.length) = true) := by
    have z : ((-1 : Int) == 1) = false := by decide
    rw [z, Bool.and_false, Bool.false_and]
    exact Bool.false_ne_true
  show wpAny _ _ (if (((xs.length : Int) - 1) == 0 && (-1 : Int) == 1 && xs.length == xs.length) = true then _ else _) _ _ s
  rw [if_neg no, pick_rev]
  first
    | exact wpAny_bind (m := Builtin.Tuple.tupleExact _) (wpAny_newObj_type (wpAny_pure ⟨_, rfl, wpAny_pure next⟩) fits)
    | exact wpAny_bind (m := Builtin.Tuple.tupleExact _) (wpAny_newObj_type (wpAny_bind (wpAny_pure (wpAny_pure ⟨_, rfl, wpAny_pure next⟩))) fits)
    | exact wpAny_bind (wpAny_bind (m := Builtin.Tuple.tupleExact _) (wpAny_newObj_type (wpAny_pure (wpAny_pure ⟨_, rfl, wpAny_pure next⟩)) fits))
    | exact wpAny_bind (wpAny_bind (m := Builtin.Tuple.tupleExact _) (wpAny_newObj_type (wpAny_pure ⟨_, rfl, wpAny_pure next⟩) fits))
end
section
variable {X : Cx}
/-- t[::-1], the new tuple told with its own object -/
def tRevT (K : PySem.W.Frag) (te : TE) : TE := fun σ H Q => te σ H fun x H1 => ∃ a xs, x = .ref a ∧ SqT K H1 a xs ∧ ∀ p o, H1 p = none → o.dict = none → o.slots = #[] → Q (.ref p) (upd H1 p (.frz o (.tup xs.reverse)))
theorem pe_revT {e : Expr} {te : TE} {k : Nat} {p1 p2 p3 pos : Pos} (he : PE X e te) : PE X (.Subscript e (.Slice none none (some (.UnaryOp .USub (.Constant (.int 1) k p1) p2)) p3) pos) (tRevT X.K te) := by
  constructor
  intro pins s σ H Q I want
  refine Subscript_ (thn (he.run pins s σ H _ I want) fun v s1 got => ?_)
  obtain ⟨x, H1, I1, rel, a, xs, isR, isT, q⟩ := got
  subst isR
  cases (show v = Value.ref a from rel)
  have step : PO X (some (.UnaryOp .USub (.Constant (.int 1) k p1) p2)) (tPart (tUn (rU fun i => .int (-i)) (tC (.int 1)))) := po_some (pe_un un_neg pe_int)
  refine wpAny_Slice (thn (po_none.run pins s1 σ H1 (fun o H2 => o = none ∧ H2 = H1) I1 ⟨rfl, rfl⟩) fun vl s2 got2 => ?_)
  obtain ⟨lo, H2, I2, pl, el, eh2⟩ := got2
  subst el eh2
  refine thn (po_none.run pins s2 σ H2 (fun o H3 => o = none ∧ H3 = H2) I2 ⟨rfl, rfl⟩) fun vu s3 got3 => ?_
  obtain ⟨up, H3, I3, pu, eu, eh3⟩ := got3
  subst eu eh3
  refine thn (step.run pins s3 σ H3 (fun o H4 => o = some (-1) ∧ H4 = H3) I3 ⟨1, rfl, -1, rfl, rfl, rfl⟩) fun vs s4 got4 => ?_
  obtain ⟨st, H4, I4, ps, es, eh4⟩ := got4
  subst es eh4
  let cut : Obj := { cls := .type "slice", data := .fields #[vl, vu, vs] }
  have I5 : Inv X pins σ H4 { s4 with heap := s4.heap.push cut } := I4.kept (t' := s4.toks) fun b ob z => Heap.get?_push_of_some _ z
  obtain ⟨its, r, at_, small⟩ := I5.tuple isT
  have len := r.length
  show wpAny (model X.prog X.w) X.A (subscriptTail e (.Slice none none (some (.UnaryOp .USub (.Constant (.int 1) k p1) p2)) p3) (.ref a) (.ref s4.heap.objs.size)) (EP X pins σ Q) X.xe { s4 with heap := s4.heap.push cut }
  refine tail_any (ops := [.ref a, .ref s4.heap.objs.size]) at_.typeIs (PyProof.Rows.slot_tuple_getitem.lookup) ?_ (by with_unfolding_all rfl)
  let new : Obj := { cls := .type "tuple", data := .seq its.reverse.toArray }
  have got : ((s4.heap.push cut).push new).get? (s4.heap.push cut).objs.size = some new := Heap.get?_push_size _ rfl
  refine getItem_rev at_ (Heap.IsSliceOf.new _ vl vu vs) pl pu ps ?_ (by rw [← len]; exact small)
  have okN : ObjOk X.prog X.w (upd H4 (s4.heap.push cut).objs.size (.frz new (.tup xs.reverse))) ((s4.heap.push cut).push new) (s4.heap.push cut).objs.size (.frz new (.tup xs.reverse)) :=
    ⟨got, by rw [List.length_reverse]; exact small, its.reverse, r.reverse, new, got, rfl, _, rfl⟩
  exact ⟨.ref _, _, I5.laid (t' := s4.toks) (fun b ob z => Heap.get?_push_of_some _ z) (Nat.le_refl _) okN, rfl, q _ new (I5.hok.fresh (Nat.le_refl _)) rfl rfl⟩
/-- l.extend(t), the tuple told with its own object -/
def rExtT : V → List V → Hp → VK → Prop := fun x vs H Q => ∃ (l b : Addr) (o : Obj) (xs zs : List V), x = .ref l ∧ vs = [.ref b] ∧ H l = some (.lst xs) ∧ H b = some (.frz o (.tup zs)) ∧ o.dict = none ∧ o.slots = #[] ∧ xs.length + zs.length ≤ sizeLine ∧ Q .non (upd H l (.lst (xs ++ zs)))
theorem mt_extT : MtM X "list.extend" rExtT := by
  intro pins s σ H x vs v us Q I rx rv want
  obtain ⟨l, b, o, xs, zs, e1, e2, hl, hb, od, os, room, q⟩ := want
  subst e1 e2
  cases (show v = Value.ref l from rx)
  obtain ⟨u, eu, ru⟩ := rv.one
  subst eu
  cases (show u = Value.ref b from ru)
  obtain ⟨small, its, n, r, isL, at_⟩ := I.lstM hl
  have held : ObjOk X.prog X.w H s.heap b (.frz o (.tup zs)) := I.hok b _ hb
  obtain ⟨atB, small2, its2, r2, o2, at2, cls, n2, dat⟩ := held
  rw [atB] at at2
  cases at2
  have whole : o = { cls := .type "tuple", dict := none, data := .seq its2.toArray n2, slots := #[] } := by
    obtain ⟨c, d, t, sl⟩ := o
    have c1 : c = .type "tuple" := cls
    have c2 : t = .seq its2.toArray n2 := dat
    have c3 : d = none := od
    have c4 : sl = #[] := os
    subst c1 c2 c3 c4
    rfl
  rw [whole] at atB
  have l1 := r.length
  have l2 := r2.length
  have room2 : its.toArray.size + its2.toArray.size ≤ sizeLine := by
    rw [List.size_toArray, List.size_toArray]
    omega
  have notLong : ¬ (!its.toArray.isEmpty && Builtin.List.listTooLong (its.toArray.size + its2.toArray.size)) = true := by
    rw [notLongL room2, Bool.and_false]
    exact Bool.false_ne_true
  refine call_meets F.slot_list_extend ⟨_, at_, rfl⟩ F.entry_list_extend (F.args_list_extend_2 _ _) (AutoSeq1.list_extend_list_tuple_0 l its.toArray n b its2.toArray n2 notLong (by rw [List.size_toArray]; omega) (by omega)) ⟨at_, atB, ?_⟩
  exact ⟨.non, _, I.lset (its' := its ++ its2) hl at_ (by simp) (r.append r2) (by rw [List.length_append]; omega), rfl, q⟩
end
end Dw
end
section
/-! dict(zip(a, b)), a and b lists or tuples -/
namespace Dw
open PySem PySem.Spec PyProof.Rows L2 Evl
section
variable {prog : Program} {w : World} {A : Around} {E : Value → Shared → Prop} {s : Shared} {z TI TO T p q : Addr} {F G : List Addr} {n m i : Nat} {P R : Nat → Value → Prop} {U V : Nat → Heap → Prop} {f : Bool} {oT : Obj}
end
/-- a list or a tuple, and its walker -/
def SqO (t : Bool) (h : Heap) (l : Addr) (xs : Array Value) : Prop := if t = true then h.IsTuple l xs else h.IsList l xs
def SqI (t : Bool) (it l : Addr) (xs : Array Value) (i : Nat) (h : Heap) : Prop := if t = true then h.IsTupleIter it l i ∧ h.IsTuple l xs else h.IsListIter it l i ∧ h.IsList l xs
theorem SqI.keep {t : Bool} {it l : Addr} {xs : Array Value} {i : Nat} {h h' : Heap} (x : SqI t it l xs i h) (k : ∀ b, b = it ∨ b = l → ∀ o, h.get? b = some o → h'.get? b = some o) : SqI t it l xs i h' := by
  cases t
  · exact And.intro (x.1.at fun o e => k it (.inl rfl) o e) (x.2.at fun o e => k l (.inr rfl) o e)
  · exact And.intro (x.1.at fun o e => k it (.inl rfl) o e) (x.2.at fun o e => k l (.inr rfl) o e)
theorem SqI.there {t : Bool} {it l : Addr} {xs : Array Value} {i : Nat} {h : Heap} (x : SqI t it l xs i h) : (∃ o, h.get? it = some o) ∧ ∃ o, h.get? l = some o := by
  cases t
  · obtain ⟨⟨o, a, _⟩, ⟨o2, b, _⟩⟩ := x
    exact ⟨⟨o, a⟩, ⟨o2, b⟩⟩
  · obtain ⟨⟨o, a, _⟩, ⟨o2, b, _⟩⟩ := x
    exact ⟨⟨o, a⟩, ⟨o2, b⟩⟩
/-! the expression -/
abbrev itOf (t : Bool) (l : Addr) : Obj := { cls := .type (if t = true then "tuple_iterator" else "list_iterator"), data := .fields #[.ref l, .int 0 0] }
theorem SqI.start {t : Bool} {h h' : Heap} {it l : Addr} {xs : Array Value} (x : SqO t h l xs) (k : ∀ b o, h.get? b = some o → h'.get? b = some o) (e : h'.get? it = some (itOf t l)) : SqI t it l xs 0 h' := by
  cases t
  · exact And.intro ⟨_, e, rfl, rfl⟩ (Heap.IsList.at (show h.IsList l xs from x) fun o q => k l o q)
  · exact And.intro ⟨_, e, rfl, rfl⟩ (Heap.IsTuple.at (show h.IsTuple l xs from x) fun o q => k l o q)
end Dw
end
section
/-! promises of new lists; comprehensions over a zip; tuple.index of texts; wider sums -/
namespace Dw
open PySem PySem.Spec PyProof.Rows L2 Evl RZ
/-- a promise of a new list -/
def spL {α : Type} (pre : α → List V → Hp → Prop) (xs : α → List V) : Sp := fun vs H Q _ => ∃ a, pre a vs H ∧ ∀ p H', H p = none → Ex H H' → H' p = some (.lst (xs a)) → Q (.ref p) H'
section
variable {K : PySem.W.Frag} {σ : L2.St} {H H' : Hp} {ta tb te : TE} {t : TT} {x y z v : V} {D : Ends} {tu tz : TS} {g : TG}
theorem el_call {α : Type} {pre : α → List V → Hp → Prop} {xs : α → List V} (a : α) {vs : List V} {E : XK} {ta : TA} (h : EvA ta σ H vs) (hp : ∀ H1, Ex H H1 → pre a vs H1) : EvL (tCall (spL pre xs) [] E ta) σ H (xs a) := fun H1 e Q q =>
  h H1 e _ fun H2 e2 => by
    rw [List.append_nil]
    exact ⟨a, hp H2 (e.trans e2), fun p H3 np e3 at_ => q p H3 (fresh_back e2 np) (e2.trans e3) at_⟩
theorem ev_subM {a b : Nat} (ha : Ev ta σ H (vi a)) (hb : Ev tb σ H (vi b)) (l : b ≤ a) : Ev (tOp (rI0 fun i j => .int (i - j)) ta tb) σ H (vi (a - b)) := ev_is (ev_op ha hb rv_I0) (by show V.int ((a : Int) - (b : Int)) = V.int ((a - b : Nat) : Int); congr 1; omega)
end
section
variable {X : Cx}
theorem op_in_seqK (K : PySem.W.Frag) (h : X.K = K := by rfl) : OpR X (compareOp .In) (rIn K false) := by
  subst h
  exact op_in_seq
theorem op_notIn_seqK (K : PySem.W.Frag) (h : X.K = K := by rfl) : OpR X (compareOp .NotIn) (rIn K true) := by
  subst h
  exact op_notIn_seq
end
end Dw
end
section
/-! for k, (a, b) in enumerate(zip(two lists)) -/
namespace Dw
open PySem PySem.Spec PyProof.Rows L2 Evl RZ
section
variable {prog : Program} {w : World} {A : Around} {E : Value → Shared → Prop} {s : Shared}
end
/-! a turn of a zip that may use its own tuple again -/
abbrev ZipF (h : Heap) (z TI TO : Addr) (f0 f1 : Value) : Prop := h.get? z = some { cls := .type "zip", dict := none, data := .fields #[f0, f1, .bool false, .ref TI, .ref TO], slots := #[] }
section
variable {prog : Program} {w : World} {A : Around} {E : Value → Shared → Prop} {s : Shared} {z TI TO T p q : Addr} {F G : List Addr} {n m i : Nat} {P R : Nat → Value → Prop} {U V : Nat → Heap → Prop} {f0 f1 a1 a2 : Value}
/-! next of a zip, whatever its own tuple is -/
/-- what stands of a zip between two turns -/
def ZTn (z TI TO p q a b : Addr) (i : Nat) (h : Heap) : Prop := IsTupOf2 h TI (.ref p) (.ref q) ∧ (∃ x y, IsTupOf2 h TO x y) ∧ (ZipF h z TI TO .none (.bool false) ∨ ∃ T f, IsZipHeld h z TI TO T f) ∧ h.IsListIter p a i ∧ h.IsListIter q b i
end
end Dw
end
section
/-! for k, (a, b) in enumerate(zip(two lists)): the walker -/
namespace Dw
open PySem PySem.Spec PyProof.Rows L2 Evl RZ
theorem ZTn.keep {z TI TO p q a b : Addr} {i : Nat} {h h' : Heap} (st : ZTn z TI TO p q a b i h) (k : ∀ c ∈ [z, TI, TO, p, q], ∀ o, h.get? c = some o → h'.get? c = some o) : ZTn z TI TO p q a b i h' := by
  obtain ⟨c1, ⟨x, y, c2⟩, c3, c4, c5⟩ := st
  refine ⟨k _ (by simp) _ c1, ⟨x, y, k _ (by simp) _ c2⟩, ?_, c4.at fun o e => k p (by simp) o e, c5.at fun o e => k q (by simp) o e⟩
  rcases c3 with c3 | ⟨T, f, c3⟩
  · exact .inl (k _ (by simp) _ c3)
  · exact .inr ⟨T, f, k _ (by simp) _ c3⟩
theorem FpOk.new {X : Cx} {pins : List (Addr × Obj)} {H : Hp} {b T : Addr} {o : HO} (h : FpOk X pins H b) (ne : b ≠ T) : FpOk X pins (upd H T o) b := ⟨by rw [upd_ne ne]; exact h.1, h.2⟩
end Dw
end
section
/-! enumerate(zip(two lists)): the expression -/
namespace Dw
open PySem PySem.Spec PyProof.Rows L2 Evl RZ
end Dw
end
section
/-! l.extend(any tuple that is read) -/
namespace Dw
open PySem PySem.Spec PyProof.Rows L2 Evl RZ
section
variable {X : Cx}
end
end Dw
end
section
/-! [.. for k, (a, b) in enumerate(zip(two lists)) if ..] -/
namespace Dw
open PySem PySem.Spec PyProof.Rows L2 Evl RZ
section
variable {K : PySem.W.Frag} {σ : L2.St} {H H' : Hp} {te : TE} {tt : TT}
end
end Dw
end
section
/-! t.index(x), x any small data -/
namespace Dw
open PySem PySem.Spec PyProof.Rows L2 Evl RZ
end Dw
end
section
namespace Dw
open PySem PySem.Spec PyProof.Rows L2
/-! list(a text): its signs -/
end Dw
end
section
/-! zip(a list, a tuple): as many pairs as the shorter has -/
namespace Dw
open PySem PySem.Spec PyProof.Rows L2 Evl RZ
def StandsM (z TI TO i1 i2 a b : Addr) (i : Nat) (hp : Heap) : Prop := IsZip hp z TI TO .none ∧ IsTupOf2 hp TI (.ref i1) (.ref i2) ∧ (∃ x y, IsTupOf2 hp TO x y) ∧ hp.IsListIter i1 a i ∧ hp.IsTupleIter i2 b i
theorem five {c z TI TO i1 i2 : Addr} {P : Addr → Prop} (h : c ∈ [z, TI, TO, i1, i2]) (p1 : P z) (p2 : P TI) (p3 : P TO) (p4 : P i1) (p5 : P i2) : P c := by
  simp only [List.mem_cons, List.not_mem_nil, or_false] at h
  rcases h with e | e | e | e | e <;> (rw [e]; assumption)
theorem StandsM.low {z TI TO i1 i2 a b : Addr} {i : Nat} {hp : Heap} (st : StandsM z TI TO i1 i2 a b i hp) {c : Addr} (h : c ∈ [z, TI, TO, i1, i2]) : c < hp.objs.size := by
  obtain ⟨hz, hI, ⟨x, y, hO⟩, ⟨o1, e1, _⟩, ⟨o2, e2, _⟩⟩ := st
  exact five (P := fun c => c < hp.objs.size) h (Heap.lt_size hz) (Heap.lt_size hI) (Heap.lt_size hO) (Heap.lt_size e1) (Heap.lt_size e2)
end Dw
end
section
/-! dicts told with the same keys and the same data -/
namespace Dw
open PySem PySem.Spec PyProof.Rows L2 Evl RZ
section
variable {X : Cx}
end
end Dw
end
section
/-! zip(a tuple, a list): as many pairs as the shorter has -/
namespace Dw
open PySem PySem.Spec PyProof.Rows L2 Evl RZ
def StandsN (z TI TO i1 i2 a b : Addr) (i : Nat) (hp : Heap) : Prop := IsZip hp z TI TO .none ∧ IsTupOf2 hp TI (.ref i1) (.ref i2) ∧ (∃ x y, IsTupOf2 hp TO x y) ∧ hp.IsTupleIter i1 a i ∧ hp.IsListIter i2 b i
theorem StandsN.low {z TI TO i1 i2 a b : Addr} {i : Nat} {hp : Heap} (st : StandsN z TI TO i1 i2 a b i hp) {c : Addr} (h : c ∈ [z, TI, TO, i1, i2]) : c < hp.objs.size := by
  obtain ⟨hz, hI, ⟨x, y, hO⟩, ⟨o1, e1, _⟩, ⟨o2, e2, _⟩⟩ := st
  exact five (P := fun c => c < hp.objs.size) h (Heap.lt_size hz) (Heap.lt_size hI) (Heap.lt_size hO) (Heap.lt_size e1) (Heap.lt_size e2)
end Dw
end
section
/-! list(zip(a, b)) -/
namespace Dw
open PySem PySem.Spec PyProof.Rows L2 Evl
/-- what a zip under way is, with S apart -/
structure ZG (z TI TO p q a b S : Addr) (t1 t2 : Bool) (xs ys : Array Value) (i : Nat) (h : Heap) : Prop where
  ti : IsTupOf2 h TI (.ref p) (.ref q)
  s1 : SqI t1 p a xs i h
  s2 : SqI t2 q b ys i h
  st : (IsZip h z TI TO .none ∧ ∃ x y, IsTupOf2 h TO x y) ∨ ∃ T f oT, IsZipHeld h z TI TO T f ∧ h.get? T = some oT ∧ T ≠ z ∧ T ≠ p ∧ T ≠ q ∧ T ≠ S
theorem ZG.keep {z TI TO p q a b S : Addr} {t1 t2 : Bool} {xs ys : Array Value} {i : Nat} {h h' : Heap} (g : ZG z TI TO p q a b S t1 t2 xs ys i h) (far : ∀ c ∈ [z, TI, TO, p, q, a, b], c < S) (k : ∀ c o, c ≠ S → h.get? c = some o → h'.get? c = some o) : ZG z TI TO p q a b S t1 t2 xs ys i h' := by
  have nz : ∀ c ∈ [z, TI, TO, p, q, a, b], c ≠ S := fun c hc => Nat.ne_of_lt (far c hc)
  obtain ⟨e1, e2, e3, e4⟩ := g
  refine ⟨k _ _ (nz TI (by simp)) e1, e2.keep fun c hc o e => ?_, e3.keep fun c hc o e => ?_, ?_⟩
  · rcases hc with x | x <;> subst x <;> exact k _ o (nz _ (by simp)) e
  · rcases hc with x | x <;> subst x <;> exact k _ o (nz _ (by simp)) e
  · rcases e4 with ⟨isZ, x, y, isO⟩ | ⟨T, f, oT, isZ, atT, r1, r2, r3, r4⟩
    · exact .inl ⟨k _ _ (nz z (by simp)) isZ, x, y, k _ _ (nz TO (by simp)) isO⟩
    · exact .inr ⟨T, f, oT, k _ _ (nz z (by simp)) isZ, k _ _ r4 atT, r1, r2, r3, r4⟩
section
variable {prog : Program} {w : World} {A : Around} {E : Value → Shared → Prop} {s : Shared} {z TI TO p q a b S : Addr} {t1 t2 : Bool} {xs ys : Array Value} {i : Nat}
end
/-- the pairs at their addresses -/
structure ZPr (xs ys : Array Value) (lo : Addr) (h : Heap) (as : List Addr) : Prop where
  rise : as.Pairwise (· < ·)
  above : ∀ a ∈ as, lo < a
  pairs : ∀ (j : Nat) (a : Addr), as[j]? = some a → ∃ x y, xs[j]? = some x ∧ ys[j]? = some y ∧ IsTupOf2 h a x y
theorem ZPr.there {xs ys : Array Value} {lo : Addr} {h : Heap} {as : List Addr} (g : ZPr xs ys lo h as) {a : Addr} (ha : a ∈ as) : a < h.objs.size := by
  obtain ⟨j, hj⟩ := List.mem_iff_getElem?.mp ha
  obtain ⟨_, _, _, _, e⟩ := g.pairs j a hj
  exact Heap.lt_size e
section
variable {prog : Program} {w : World} {A : Around} {s : Shared} {R : Result → Shared → Prop} {z TI TO p q a b S : Addr} {t1 t2 : Bool} {xs ys : Array Value}
end
section
variable {prog : Program} {w : World} {A : Around} {E : Value → Shared → Prop} {s : Shared} {z TI TO p q a b : Addr} {t1 t2 : Bool} {xs ys : Array Value}
end
/-! laid down -/
end Dw
end
section
/-! a tuple times 0 or 1 -/
namespace Dw
open PySem PySem.Spec PyProof.Rows L2
end Dw
end
section
/-! a caught exception that is kept: it is told from the catch on, so that isinstance can be asked of it behind the try -/
namespace Dw
open PySem PySem.Spec PyProof.Rows L2
/-- an exception of the class cls, that is no longer in the air -/
def ExcAt (a : Addr) (cls : Value) (d : Option Addr) : HO := .ext fun h => ∃ ob fv, h.get? a = some ob ∧ Zc cls d ob ∧ ob.data = .fields fv
section
variable {X : Cx} {pins : List (Addr × Obj)} {σ : L2.St} {H : Hp} {s : Shared}
theorem excAt_ok {P : Program} {w : World} {h : Heap} {a : Addr} {ob : Obj} {fv : Array Value} {cls : Value} {d : Option Addr} (e : h.get? a = some ob) (z : Zc cls d ob) (f : ob.data = .fields fv) : ObjOk P w H h a (ExcAt a cls d) :=
  ⟨⟨ob, fv, e, z, f⟩, ⟨ob, e⟩, fun _ _ ⟨o, v, e1, z1, f1⟩ k => ⟨o, v, k o e1, z1, f1⟩⟩
/-- an object that stands, is new since the def began and was not told, is told from now on -/
theorem track {a : Addr} {ob : Obj} {fv : Array Value} {cls : Value} {d : Option Addr} (I : Inv X pins σ H s) (e : s.heap.get? a = some ob) (z : Zc cls d ob) (f : ob.data = .fields fv) (na : H a = none) (new : X.s_0.heap.get? a = none) (nL : a ≠ X.env.locals) (nP : ∀ p ∈ X.pn ++ pins, p.1 ≠ a) :
    Inv X pins σ (upd H a (ExcAt a cls d)) s := by
  have other : ∀ {b : Addr} {u : HO}, H b = some u → upd H a (ExcAt a cls d) b = some u := fun {b u} q => by
    rw [upd_ne (fun y => by rw [y, na] at q; cases q)]
    exact q
  refine ⟨I.ok, I.os, I.bare, ⟨I.base.keep, I.base.slot, fun b o q n x => ?_, I.base.there, fun b xs q => other (I.base.tups b xs q), fun b o u q => other (I.base.frzs b o u q), fun b ps q => ?_⟩, I.loc, I.cell, ?_, fun y cc q => ?_, fun p hp => ?_, fun b o q => ?_, I.len⟩
  · rw [upd_ne (fun y => by rw [y, new] at q; cases q)]
    exact I.base.free b o q n x
  · obtain ⟨more, q2⟩ := I.base.tbls b ps q
    exact ⟨more, other q2⟩
  · rw [upd_ne (Ne.symm nL)]
    exact I.free
  · rw [upd_ne (fun y2 => ?_)]
    · exact I.freeC y cc q
    · obtain ⟨v, o, e2, d2⟩ := I.cell y cc q
      rw [y2, e] at e2
      cases e2
      rw [f] at d2
      cases d2
  · obtain ⟨p1, p2, p3⟩ := I.pin p hp
    exact ⟨p1, by rw [upd_ne (nP p hp)]; exact p2, p3⟩
  · by_cases ba : b = a
    · subst ba
      rw [upd_same] at q
      cases q
      exact excAt_ok e z f
    · rw [upd_ne ba] at q
      exact (I.hok b o q).stay (fun _ _ _ g => g) (fun _ g => other g) fun _ _ g => other g
/-- what the clause wishes: the class is one that it catches, and its suite goes on with the exception told -/
def wTrk (K : PySem.W.Frag) (c : Value) (i : Nat) (ts : TS) (D : Ends) : WX := fun cls d σ H =>
  PySem.W.exmOne K cls c = some true ∧ ∀ a, H a = none → ts ⟨fun σ' H' => D.nx (σ'.set i none) H', fun _ _ => False, fun _ _ => False, fun _ _ => False⟩ (σ.set i (some (.ref a))) (upd H a (ExcAt a cls d))
theorem in_suite (I : Inv X pins σ H s) (a : Addr) : Inv (X.suite a (X.pn ++ pins)) [] σ H s := ⟨I.ok.suite _ _, I.os, I.bare, I.base, I.loc, I.cell, I.free, I.freeC, fun p hp => I.pin p ((List.append_nil (X.pn ++ pins)) ▸ hp), I.hok, I.len⟩
theorem out_suite {a : Addr} (I : Inv (X.suite a (X.pn ++ pins)) [] σ H s) (ok : X.Ok) : Inv X pins σ H s := ⟨ok, I.os, I.bare, I.base, I.loc, I.cell, I.free, I.freeC, fun p hp => I.pin p (List.mem_append_left _ hp), I.hok, I.len⟩
end
section
variable {X : Cx} {x n : Str} {c : Value} {i : Nat} {body suite : List Stmt} {b0 : Stmt} {np p1 p2 : Pos} {tb : WX → TS} {ts : TS}
theorem ps_try_trk (st : X.stack = X.env :: X.outer) (fr : X.env.frame = some X.env.locals) (hex : X.ex = []) (nd : X.N.Nodup) (at_ : X.N[i]? = some n) (kd : X.env.kindOf n = some .local) (nm : Names X x c)
    (hb : ∀ (W : WX) (pn : List (Addr × Obj)) (xe : Value → Shared → Prop), Takes (X.tr pn xe) W → PassesOwn (model X.prog X.w) X.A X.env xe → PSs (X.tr pn xe) body (tb W)) (hsu : ∀ a pn, PSs (X.suite a pn) (b0 :: suite) ts) :
    PS X (.Try body [.ExceptHandler (some (.Name x np)) (some n) (b0 :: suite) p2] [] [] p1) (fun D σ H => tb (wTrk X.K c i ts D) D σ H) := by
  refine ⟨fun pins s σ H D I rd => wpAny_Try_except ?_⟩
  have around : X.A.frames = some (X.env :: X.outer) := I.ok.frames.trans (congrArg some st)
  refine wpAny_mono ((hb (wTrk X.K c i ts D) (X.pn ++ pins) _ (fun u s1 air => ?_) PassesOwn.looking).run [] s σ H D (I.toTry _) rd) (fun fl s1 fin => ?_) (fun _ _ q => q)
  · obtain ⟨a, B, sI, pins1, σ1, H1, cls, d, rfl, J1, ground, slots, sky, na, os, gens, hit, wish⟩ := air
    have J : Inv X pins σ1 H1 sI := J1.ofTry I.ok
    refine Sky.land Zc.steady around fr (show Sky B (X.env :: X.outer) a (Zc cls d) X.env.locals s1.heap from st ▸ sky) fun h2 fly2 slots2 => ?_
    have J2 : Inv X pins σ1 H1 { s1 with heap := h2 } := J.landed ground fly2.1 (slots.trans slots2) os gens
    obtain ⟨ob2, fv2, got2, z2, f2⟩ := fly2.there
    have noFrame : a ∉ frs X.stack := fun m => by
      rw [st] at m
      obtain ⟨_, o', g', no⟩ := fly2.2.2.1.mem m
      rw [got2] at g'
      cases g'
      exact no _ f2
    have newI : sI.heap.get? a = none := by
      cases g : sI.heap.get? a with
      | none => rfl
      | some o =>
        have q := ground a o g noFrame
        rw [fly2.2.1] at q
        cases q
    have new0 : X.s_0.heap.get? a = none := by
      cases g : X.s_0.heap.get? a with
      | none => rfl
      | some o =>
        by_cases ex : a ∈ X.ex
        · rw [hex] at ex
          cases ex
        · obtain ⟨o', q⟩ := J.base.there a o g ex
          rw [newI] at q
          cases q
    have notL : a ≠ X.env.locals := fun q => noFrame (by
      rw [st]
      exact List.mem_filterMap.mpr ⟨X.env, List.mem_cons_self .., by rw [fr, q]⟩)
    have notP : ∀ p ∈ X.pn ++ pins, p.1 ≠ a := fun p hp q => by
      have g := (J.pin p hp).1
      rw [q, newI] at g
      cases g
    refine wpAny_handleBy_cons (codeAny_handlers_test ?_) (fun q => nomatch q)
    have typ : PySem.W.Looks (model X.prog X.w) h2 (typeOf (.ref a)) cls := fun A Q E s' k q => wpAny_typeOf_ref (k _ _ got2) (by rw [z2.1]; exact q)
    have yes := PySem.W.exm_one (M := model X.prog X.w) J2.kIn typ hit
    have named : ∀ {Q : Value → Shared → Prop} {E : Value → Shared → Prop}, Q c { s1 with heap := h2 } → wpAny (model X.prog X.w) (X.A.mark (some (.ref a))) (eval (.Name x np) X.env) Q E { s1 with heap := h2 } := fun {Q E} q => by
      obtain ⟨g, nodbg, m | ⟨m, bt, nn⟩⟩ := nm
      · exact ld_glob (in_suite J2 a) g m q nodbg
      · exact ld_blt (in_suite J2 a) g m bt q nn nodbg
    refine named (yes.here (codeAny_handlers_suite_as (HandSPX.lands_againZ fly2 fun h3 fly3 slots3 => ?_)))
    have J3 : Inv X pins σ1 H1 { s1 with heap := h3 } := J.landed ground fly3.1 ((slots.trans slots2).trans slots3) os gens
    obtain ⟨ob3, fv3, got3, z3, f3⟩ := fly3.there
    have T3 := in_suite (track J3 got3 z3 f3 na new0 notL notP) a
    refine store_ok (X := X.suite a (X.pn ++ pins)) (v := .ref a) T3 nd at_ (.inl kd) rfl (fun s4 T4 => ?_) (.inr kd)
    refine wpAny_mono ((hsu a (X.pn ++ pins)).run [] s4 _ _ _ T4 (wish a na)) (fun fl s5 fin => ?_) (fun _ _ q => q.elim)
    cases fl with
    | next =>
      obtain ⟨σ5, H5, T5, q5⟩ := fin
      exact gone_ok (out_suite T5 I.ok) nd at_ kd fun s6 J6 => ⟨_, _, J6, q5⟩
    | brk => exact fin.elim fun _ ⟨_, _, q⟩ => q.elim
    | cont => exact fin.elim fun _ ⟨_, _, q⟩ => q.elim
    | ret u => exact fin.elim fun _ ⟨_, _, _, _, q⟩ => q.elim
  · cases fl with
    | next =>
      obtain ⟨σ2, H2, J2, q⟩ := fin
      exact wpAny_execs_nil ⟨σ2, H2, J2.ofTry I.ok, q⟩
    | brk =>
      obtain ⟨σ2, H2, J2, q⟩ := fin
      exact ⟨σ2, H2, J2.ofTry I.ok, q⟩
    | cont =>
      obtain ⟨σ2, H2, J2, q⟩ := fin
      exact ⟨σ2, H2, J2.ofTry I.ok, q⟩
    | ret u =>
      obtain ⟨v, σ2, H2, J2, r, q⟩ := fin
      exact ⟨v, σ2, H2, J2.ofTry I.ok, r, q⟩
end
end Dw
end
section
/-! isinstance of a kept exception; defs that raise, called in a try -/
namespace Dw
open PySem PySem.Spec PyProof.Rows L2 Evl
/-- a def that keeps a promise and may raise -/
structure ClX (P : Program) (w : World) (K : PySem.W.Frag) (mg : Str → Option Value) (base : Heap) (k : Nat) (x : Str) (sp : Sp) : Prop where
  ex : ∃ (f : Addr) (fd : FuncData) (ps : List Str), FnOk P w K mg base (L2.CX P w) k f fd ps sp ∧ mg x = some (.ref f) ∧ PySem.W.keepIn K (.ref f) = true ∧ Binds K fd ps []
theorem clx_of {P : Program} {w : World} {K : PySem.W.Frag} {mg : Str → Option Value} {base : Heap} {x : Str} {st : Stmt} {N ps : List Str} {k : Nat} {sp : Sp} (D : Df K mg x st ps) (S : FnScope N ps (defScope st)) (len : ∀ vs H Q E, sp vs H Q E → vs.length = ps.length)
    (body : ∀ (f : Addr) (cdv : Value) (A : Around) (outer : List Env) (s : Shared) (H : Hp) (vs : List V) (Q : VK) (E : XK), Room k (A.deeper (envOfC x (defScope st) s.heap.objs.size f cdv)) → sp vs H Q E →
      ∃ t, PSs (cxOf (L2.CX P w) P w K mg base N x (defScope st) f cdv A outer s H E) (defBody st) t ∧ t { nx := fun _ H' => Q .non H', rt := Q } (start N vs) H) : ClX P w K mg base (k + 1) x sp := by
  obtain ⟨f, fd, F, m, b⟩ := D.ex
  exact ⟨f, fd, ps, F.okX S len (fun cdv A outer s H vs Q E hr h => body f cdv A outer s H vs Q E hr h), m, F.kp, b⟩
/-- its call where the wish of what is raised is W -/
theorem pe_clX {X : Cx} {k j : Nat} {x : Str} {sp : Sp} {p pos : Pos} {e : Expr} {es : List Expr} {t : TA} {W : WX} (c : ClX X.prog X.w X.K X.mg X.base k x sp) (tk : Takes X W) (hr : Room j X.A) (hk : k ≤ j) (hg : Gl X x) (ha : PA X (e :: es) t)
    (dbg : (x == ("__debug__" : Str)) = false := by decide) (str : starEach (e :: es) X.env = (false, eval e X.env) :: starEach es X.env := by rfl) (bck : (backTo pos (starEach es X.env)).any (·.1) = false := by rfl) :
    PE X (.Call (.Name x p) (e :: es) [] pos) (tCallS sp (fun σ => WE W σ) t) := by
  obtain ⟨f, fd, ps, F, m, kp, b⟩ := c.ex
  exact pe_callS F (hr.mono hk) hg m kp b (fun σ => passAt tk σ) ha dbg str bck
/-- a promise to raise an error of the class C, all that stood left as it was -/
def spE {α : Type} (C : Addr) (pre : α → List V → Hp → Prop) : Sp := fun vs H _ E => ∃ a, pre a vs H ∧ ∀ H', Ex H H' → E (.ref C) none H'
/-- what the top says of an error's class -/
structure ExcT (K : PySem.W.Frag) (mg : Str → Option Value) (x : Str) (C : Addr) : Prop where
  g : mg x = some (.ref C)
  k : PySem.W.keepIn K (.ref C) = true
  q : PySem.W.excIn K C [.type "ValueError", .type "Exception", .type "BaseException", .type "object"] "ValueError.__new__" = true
  t : PySem.W.typeIn K (.ref C) = some (.type "type")
  c : ExcC K C
end Dw
end
section
/-! repr of a written list with dicts of data among its items -/
namespace Dw
open PySem PySem.Spec PyProof.Rows L2 Evl
/-! data of texts, numbers and tuples alone: no place is told of it -/
mutual
def noL : PyData → Bool
  | .none | .bool _ | .int _ | .str _ => true
  | .tuple xs => noLs xs
  | .list _ | .dict _ => false
def noLs : List PyData → Bool
  | [] => true
  | x :: xs => noL x && noLs xs
end
section
variable {X : Cx} {pins : List (Addr × Obj)} {σ : L2.St} {H : Hp} {s : Shared}
end
/-! sizes -/
structure Gs (k W : Nat) (d : PyData) : Prop where
  dep : d.depth ≤ k
  wgt : d.weight ≤ W
  its : d.leavesShort 13 = true
  sho : d.showable = true
theorem Gs.mono {k W k' W' : Nat} {d : PyData} (h : Gs k W d) (a : k ≤ k') (b : W ≤ W') : Gs k' W' d := ⟨Nat.le_trans h.dep a, Nat.le_trans h.wgt b, h.its, h.sho⟩
theorem Gs.len {k W : Nat} {d : PyData} (h : Gs k W d) (b : W ≤ 1000000) : d.shown.length ≤ sizeLine := by
  have z := PyData.shown_le 13 (by decide) d h.its
  have y := h.wgt
  rw [sizeLine_eq]
  omega
end Dw
end
section
/-! == and != of deep data; isinstance of what was caught or of None, one class or a written tuple of them -/
namespace Dw
open PySem PySem.Spec PyProof.Rows L2 Evl
def Lay (d : PyData) : Prop := d.canLay0 = true ∧ d.depth ≤ 190
def rNeL (K : PySem.W.Frag) : R2 := fun x y H Q => ∃ d e, Dp K H x d ∧ Dp K H y e ∧ Lay d ∧ Lay e ∧ Q (.bl (!PyData.eqv d e)) H
theorem op_neL {X : Cx} {k : Nat} (hr : Room k X.A) : OpR X (compareOp .NotEq) (rNeL X.K) := by
  intro pins s σ H x y v u Q I rx ry h
  obtain ⟨d, e, hd, he, ⟨sd, dd⟩, ⟨se, _⟩, q⟩ := h
  obtain ⟨as, r1⟩ := Dp.reads I d x v hd rx
  obtain ⟨bs, r2⟩ := Dp.reads I e y u he ry
  refine SeqAt.compareNe_reads r1 r2 sd se ?_ ⟨.bl _, H, I, rfl, q⟩
  have un := hr.un
  have : min d.depth e.depth ≤ d.depth := Nat.min_le_left _ _
  omega
/-- None, or a kept exception: its type -/
def TyC (K : PySem.W.Frag) (H : Hp) (x : V) (t : Value) : Prop := (x = .non ∧ t = .type "NoneType") ∨ ∃ (a C : Addr), x = .ref a ∧ H a = some (ExcAt a (.ref C) none) ∧ ExcC K C ∧ t = .ref C
theorem TyC.ex {K : PySem.W.Frag} {H H' : Hp} {x : V} {t : Value} (e : Ex H H') (h : TyC K H x t) : TyC K H' x t := h.imp id fun ⟨a, C, h1, h2, h3, h4⟩ => ⟨a, C, h1, e _ _ h2, h3, h4⟩
theorem tyc_kit {X : Cx} {pins : List (Addr × Obj)} {σ : L2.St} {H : Hp} {s : Shared} {x : V} {t v : Value} (I : Inv X pins σ H s) (h : TyC X.K H x t) (r : RelV x v) : ∃ Pr, PySem.W.KitX X.K v t Pr ∧ Pr s.heap ∧ v ≠ .builtin "__main__.__loader__#opaque" := by
  rcases h with ⟨rfl, rfl⟩ | ⟨a, C, rfl, ha, xc, rfl⟩
  · obtain ⟨P, Z, p, hx⟩ := kit_of I r (tyx_non (K := X.K) (H := H))
    exact ⟨P, Z, p, hx⟩
  · cases (show v = Value.ref a from r)
    obtain ⟨⟨ob, fv, got, ⟨hc, hd⟩, hf⟩, _⟩ := (show ObjOk X.prog X.w H s.heap a (ExcAt a (.ref C) none) from I.hok a _ ha)
    have inst : PySem.W.InstAt s.heap a ob C none := by
      obtain ⟨c1, d1, t1, l1⟩ := ob
      cases (show c1 = Value.ref C from hc)
      cases (show d1 = none from hd)
      cases (show t1 = .fields fv from hf)
      exact ⟨got, rfl, rfl, trivial⟩
    exact ⟨_, PySem.W.handS_kitx_exc xc.hg xc.hk xc.hs xc.hd xc.ha xc.hn xc.ht xc.hm, inst, fun z => nomatch z⟩
def rIsC (K : PySem.W.Frag) : List V → Hp → VK → Prop := fun xs H Q => ∃ (x c : V) (t u : Value) (b : Bool), xs = [x, c] ∧ ClsV c u ∧ TyC K H x t ∧ PySem.W.kitOne K t u = some b ∧ Q (.bl b) H
theorem call_isC {X : Cx} : CallR X (.builtin "isinstance") (rIsC X.K) := by
  intro pins s σ H xs us Q I r h
  obtain ⟨x, c, t, u, b, rfl, k, ty, e, q⟩ := h
  obtain ⟨u1, u2, rfl, r1, r2⟩ := vals2 r
  have e2 := k.eq r2
  subst e2
  obtain ⟨P, Z, p, hx⟩ := tyc_kit I ty r1
  exact PySem.W.kia_one Z I.kIn p e hx fun tk => ⟨.bl b, H, I.tok tk, rfl, q⟩
theorem ev_isC {K : PySem.W.Frag} {σ : L2.St} {H : Hp} {ta tb : TE} {x c : V} {t u : Value} {b : Bool} (ha : Ev ta σ H x) (hc : Ev tb σ H c) (k : ClsV c u) (ty : TyC K H x t) (e : PySem.W.kitOne K t u = some b) : Ev (tCB (rIsC K) (tCons ta (tCons tb tNil))) σ H (.bl b) :=
  fun H1 e1 Q q => ha H1 e1 _ fun H2 e2 => hc H2 (e1.trans e2) _ fun H3 e3 => ⟨x, c, t, u, b, rfl, k, ty.ex ((e1.trans e2).trans e3), e, q H3 (e2.trans e3)⟩
end Dw
end
section
/-! defs that are only called where nothing is being shown, and repr in them -/
namespace Dw
open PySem PySem.Spec PyProof.Rows L2 Evl
end Dw
end
section
/-! in of a tuple of data; repr of deep data -/
namespace Dw
open PySem PySem.Spec PyProof.Rows L2 Evl
end Dw
end
section
/-! tuple * int, the int small, below 1 too -/
namespace Dw
open PySem PySem.Spec PyProof.Rows L2 Evl
theorem tuple_mul1 (l : Addr) (items : Array Value) (n : Nat) (dd : Option Addr) (sl : Array (Option Value)) (x : Int) (u : Tok) (hx : x = 1) :
    Meets (Builtin.«tuple.__mul__» ⟨[.ref l, .int x u], []⟩) (fun _ R s => s.heap.get? l = some { cls := .type "tuple", dict := dd, data := .seq items n, slots := sl } ∧ R (.ok (.ret (Value.ref l))) s) :=
  .of_wp fun prog w A R s h => by
    obtain ⟨hp, g, d, tk, os⟩ := s
    obtain ⟨hl, h⟩ := h
    have f1 := AutoSeq1.idx_int
    have c0 : (decide (x < -(2 ^ 63)) || decide (x ≥ 2 ^ 63)) = false := by
      rw [decide_eq_false (by omega), decide_eq_false (by omega)] <;> rfl
    have c1 : (items.isEmpty || x == 1) = true := by
      rw [hx]
      simp
    wp_walk using wpAny_loadPart' hl
    repeat (first
      | (refine wpAny_ite_false (decide_eq_false (by rw [c0]; exact Bool.false_ne_true)) ?_; wp_walk using wpAny_loadPart' hl)
      | (refine wpAny_ite_true (decide_eq_true (by rw [c1])) ?_; wp_walk using wpAny_loadPart' hl))
    exact ⟨_, rfl, h⟩
theorem tuple_mul0 (l : Addr) (items : Array Value) (n : Nat) (dd : Option Addr) (sl : Array (Option Value)) (x : Int) (u : Tok) (hx : x ≤ 0) (h10 : -10 ≤ x) (ne : items.isEmpty = false) :
    Meets (Builtin.«tuple.__mul__» ⟨[.ref l, .int x u], []⟩) (fun _ R s => s.heap.get? l = some { cls := .type "tuple", dict := dd, data := .seq items n, slots := sl } ∧
      R (.ok (.ret (Value.ref s.heap.objs.size))) { s with heap := s.heap.push { cls := Value.type "tuple", data := Data.seq #[] }, toks := s.toks }) :=
  .of_wp fun prog w A R s h => by
    obtain ⟨hp, g, d, tk, os⟩ := s
    obtain ⟨hl, h⟩ := h
    have f1 := AutoSeq1.idx_int
    have c0 : (decide (x < -(2 ^ 63)) || decide (x ≥ 2 ^ 63)) = false := by
      rw [decide_eq_false (by omega), decide_eq_false (by omega)] <;> rfl
    have c1 : (items.isEmpty || x == 1) = false := by
      rw [ne, Bool.false_or]
      exact beq_eq_false_iff_ne.mpr (by omega)
    have c2 : (decide (x ≤ 0) || items.isEmpty) = true := by
      rw [decide_eq_true hx]
      rfl
    wp_walk using wpAny_loadPart' hl
    repeat (first
      | (refine wpAny_ite_false (decide_eq_false (by rw [c0]; exact Bool.false_ne_true)) ?_; wp_walk using wpAny_loadPart' hl)
      | (refine wpAny_ite_false (decide_eq_false (by rw [c1]; exact Bool.false_ne_true)) ?_; wp_walk using wpAny_loadPart' hl)
      | (refine wpAny_ite_true (decide_eq_true (by rw [c2])) ?_; wp_walk using wpAny_loadPart' hl))
    exact ⟨_, rfl, h⟩
/-- tuple * int: nothing, itself, or so often -/
def rRepTA (K : PySem.W.Frag) : R2 := fun x y H Q => ∃ l k xs, x = .ref l ∧ y = .int k ∧ SqT K H l xs ∧ xs ≠ [] ∧ -10 ≤ k ∧ k ≤ 1000 ∧ xs.length ≤ 1000 ∧
  (k ≤ 0 → ∀ p, H p = none → Q (.ref p) (upd H p (.tup []))) ∧ (k = 1 → Q (.ref l) H) ∧ (2 ≤ k → ∀ p, H p = none → Q (.ref p) (upd H p (.tup (List.replicate k.toNat xs).flatten)))
theorem op_repTA {X : Cx} : OpR X (binaryOp .Mult) (rRepTA X.K) := by
  intro pins s σ H x y v u Q I rx ry h
  obtain ⟨l, k, xs, rfl, rfl, hT, hne, h0, h2, hz, q0, q1, q2⟩ := h
  by_cases k2 : 2 ≤ k
  · exact op_repT pins s σ H _ _ _ _ Q I rx ry ⟨l, k, xs, rfl, rfl, hT, hne, k2, h2, hz, q2 k2⟩
  cases rx
  obtain ⟨t, rfl⟩ := ry
  obtain ⟨its, r, ⟨⟨cls, dd, data, sl⟩, ho, hc, n, hd⟩, hs⟩ := I.tuple hT
  simp only at hc hd
  subst hc hd
  have hle : its.length = xs.length := r.length.symm
  have hn : its ≠ [] := fun e => hne (by
    rw [e] at hle
    exact List.eq_nil_of_length_eq_zero hle.symm)
  have hi : its.toArray.isEmpty = false := by
    cases its with
    | nil => exact absurd rfl hn
    | cons a b => rfl
  by_cases k1 : k = 1
  · exact wpAny_binaryOp_repeat_ref (T := "tuple") (U := "int") (by decide) ⟨_, ho, rfl⟩ (fun s' => typeIs_int s' k t) noFill_tuple_mul F.fills_int_mul F.slot_int_rmul repeat_tuple F.slot_int_index.lookup
      (call_meets F.slot_int_rmul (typeIs_int s k t) F.entry_int_rmul (F.args_int_rmul_2 _ _) (int_rmul_tuple k t l its.toArray n dd sl)
        ⟨ho, rfl, ⟨_, ho, rfl⟩, call_meets F.slot_tuple_mul ⟨_, ho, rfl⟩ F.entry_tuple_mul (F.args_tuple_mul_2 _ _) (tuple_mul1 l its.toArray n dd sl k t k1) ⟨ho, ⟨.ref l, H, I, rfl, q1 k1⟩⟩⟩)
  · have k0 : k ≤ 0 := by omega
    refine wpAny_binaryOp_repeat_ref (T := "tuple") (U := "int") (by decide) ⟨_, ho, rfl⟩ (fun s' => typeIs_int s' k t) noFill_tuple_mul F.fills_int_mul F.slot_int_rmul repeat_tuple F.slot_int_index.lookup
      (call_meets F.slot_int_rmul (typeIs_int s k t) F.entry_int_rmul (F.args_int_rmul_2 _ _) (int_rmul_tuple k t l its.toArray n dd sl)
        ⟨ho, rfl, ⟨_, ho, rfl⟩, call_meets F.slot_tuple_mul ⟨_, ho, rfl⟩ F.entry_tuple_mul (F.args_tuple_mul_2 _ _) (tuple_mul0 l its.toArray n dd sl k t k0 h0 hi) ⟨ho, ?_⟩⟩)
    refine ⟨.ref s.heap.objs.size, _, I.laid (t' := s.toks) (o := .tup []) (fun b ob q => Heap.get?_push_of_some _ q) (Nat.le_refl _) ?_, rfl, q0 k0 _ (I.hok.fresh (Nat.le_refl _))⟩
    exact ⟨Nat.zero_le _, [], .nil, IsTup.new _ _⟩
end Dw
end
section
/-! repr of any data without dicts -/
namespace Dw
open PySem PySem.Spec PyProof.Rows L2 Evl
end Dw
end
section
/-! C(..) whose __init__ may raise, in a try -/
namespace Dw
open PySem PySem.Spec PyProof.Rows L2 Evl
section
variable {X : Cx} {CX : CXT} {k : Nat} {f C : Addr} {fd : FuncData} {ps : List Str} {sp : Sp} {x : Str} {p pos : Pos} {e : Expr} {es : List Expr} {t : TA}
end
end Dw
end
section
/-! a class's __init__ by its promise -/
namespace Dw
open PySem PySem.Spec PyProof.Rows L2 Evl
end Dw
end
section
/-! repr of a dict of data that may hold lists -/
namespace Dw
open PySem PySem.Spec PyProof.Rows L2 Evl
section
variable {X : Cx} {pins : List (Addr × Obj)} {σ : L2.St} {H : Hp} {s : Shared}
end
end Dw
end
section
/-! tuple * int where the tuple may be empty -/
namespace Dw
open PySem PySem.Spec PyProof.Rows L2 Evl
end Dw
end
section
/-! str of any data without dicts -/
namespace Dw
open PySem PySem.Spec PyProof.Rows L2 Evl
def strD : PyData → Str
  | .str z => z
  | d => d.shown
def rStrW (X : Cx) : List V → Hp → VK → Prop := fun xs H Q => ∃ (v : V) (d : PyData), xs = [v] ∧ Dp X.K H v d ∧ X.A.guards = some [] ∧ d.showable = true ∧ d.hasDict = false ∧ d.depth ≤ 180 ∧ d.shown.length ≤ sizeLine ∧ Q (.str (strD d)) H
theorem call_strW {X : Cx} {k : Nat} (hr : Room k X.A) : CallR X (.type "str") (rStrW X) := by
  intro pins s σ H xs us Q I r h
  obtain ⟨v, d, e, hd, hg, hs, hn, hz, hl, q⟩ := h
  subst e
  obtain ⟨u, rfl, ru⟩ := vals1 r
  have un := hr.un
  have isRef : ∀ a, v = .ref a → strD d = d.shown → wpAny (model X.prog X.w) X.A (call (.type "str") [u]) (fun w' s' => ∃ z H', Inv X pins σ H' s' ∧ RelV z w' ∧ Q z H') X.xe s := fun a e ed => by
    subst e
    rw [ed] at q
    obtain ⟨as, rd⟩ := Dp.reads I d _ _ hd ru
    cases (show u = Value.ref a from ru)
    exact PySem.str_of_reads rd hs (PyData.noDict_hsm hn) hg (by omega) (fun _ _ z => z) (fun h' t tk keep => ⟨.str d.shown, H, I.kept keep, ⟨t, rfl⟩, q⟩) hl
  cases hd with
  | non =>
    cases (show u = Value.none from ru)
    exact PySem.P.str_of_none ⟨.str _, H, I.tok _, ⟨_, rfl⟩, q⟩
  | bl b =>
    cases (show u = Value.bool b from ru)
    exact PySem.P.str_of_bool ⟨.str _, H, I.tok _, ⟨_, rfl⟩, q⟩
  | int i =>
    obtain ⟨t, e⟩ := (show ∃ t, u = Value.int i t from ru)
    subst e
    exact PySem.P.str_of_int (by rw [PyData.showable] at hs; exact of_decide_eq_true hs) ⟨.str _, H, I.tok _, ⟨_, rfl⟩, q⟩
  | str x =>
    obtain ⟨t, e⟩ := (show ∃ t, u = Value.str x t from ru)
    subst e
    exact PySem.P.str_of_str ⟨.str _, H, I.tok _, ⟨_, rfl⟩, q⟩
  | lst _ _ => exact isRef _ rfl rfl
  | tup _ _ => exact isRef _ rfl rfl
end Dw
end
section
/-! the mathematics of renaming, over plain lists of natural numbers -/
namespace M20
/-- the k-th, 0 where there is none -/
abbrev g (l : List Nat) (k : Nat) : Nat := l.getD k 0
theorem g_eq {l : List Nat} {k : Nat} (h : k < l.length) : l[k]? = some (g l k) := by
  show l[k]? = some (l.getD k 0)
  rw [List.getD_eq_getElem?_getD, List.getElem?_eq_getElem h]
  rfl
theorem ext {l m : List Nat} (h : l.length = m.length) (e : ∀ k, k < l.length → g l k = g m k) : l = m := by
  apply List.ext_getElem? 
  intro k
  by_cases hk : k < l.length
  · rw [g_eq hk, g_eq (h ▸ hk), e k hk]
  · rw [List.getElem?_eq_none_iff.mpr (by omega), List.getElem?_eq_none_iff.mpr (by omega)]
/-- what is called k -/
def bk (o : List Nat) : List Nat := (List.range o.length).map fun k => o.idxOf k
/-! a table of a deed of p places over n numbers -/
structure Tab (n p : Nat) (t : List Nat) : Prop where
  len : t.length = n ^ p
  low : ∀ k, k < n ^ p → g t k < n
/-! the law's own way: each number of the table put at its place -/
def spot (n p : Nat) (o : List Nat) (k : Nat) : Nat := g o (k % n) * (if 0 < p then 1 else 0) + g o (k / n % n) * n * (if p = 2 then 1 else 0)
/-- the first k numbers put -/
def led (n p : Nat) (o t : List Nat) : Nat → List Nat
  | 0 => t
  | k + 1 => (led n p o t k).set (spot n p o k) (g o (g t k))
end M20
end
section
namespace K11
open PySem PySem.Spec PyProof.Rows L2 Evl Dw M20
open C8 (fnScope_by)
/-! ### the text -/
def topS (i : Nat) : Stmt := PySem.Challenge.pw_deedworlds_k11_readings_looked_at.main.body.getD i (.Pass ⟨0, 0, 0, 0⟩)
abbrev s_is_whole : Stmt := topS 8
theorem sc_is_whole : FnScope ["thing"] ["thing"] (defScope s_is_whole) := fnScope_by (by decide +kernel)
abbrev s_is_below : Stmt := topS 9
theorem sc_is_below : FnScope ["thing", "size"] ["thing", "size"] (defScope s_is_below) := fnScope_by (by decide +kernel)
abbrev s_power : Stmt := topS 10
theorem sc_power : FnScope ["base", "many", "told", "step"] ["base", "many"] (defScope s_power) := fnScope_by (by decide +kernel)
abbrev s_variables_met : Stmt := topS 16
theorem sc_variables_met : FnScope ["term", "met", "todo", "part"] ["term"] (defScope s_variables_met) := fnScope_by (by decide +kernel)
abbrev s_variables_of : Stmt := topS 17
theorem sc_variables_of : FnScope ["terms", "met", "term"] ["terms"] (defScope s_variables_of) := fnScope_by (by decide +kernel)
abbrev s_is_name : Stmt := topS 28
theorem sc_is_name : FnScope ["thing", "sign"] ["thing"] (defScope s_is_name) := fnScope_by (by decide +kernel)
abbrev s_is_deed : Stmt := topS 29
theorem sc_is_deed : FnScope ["thing"] ["thing"] (defScope s_is_deed) := fnScope_by (by decide +kernel)
abbrev s_signature_wrong : Stmt := topS 30
theorem sc_signature_wrong : FnScope ["thing", "k", "deed", "names", "name"] ["thing"] (defScope s_signature_wrong) := fnScope_by (by decide +kernel)
abbrev s_need_signature : Stmt := topS 31
theorem sc_need_signature : FnScope ["signature"] ["signature"] (defScope s_need_signature) := fnScope_by (by decide +kernel)
abbrev s_has_term_form : Stmt := topS 32
theorem sc_has_term_form : FnScope ["places", "thing", "name", "terms"] ["places", "thing"] (defScope s_has_term_form) := fnScope_by (by decide +kernel)
abbrev s_wrong_in_term : Stmt := topS 33
theorem sc_wrong_in_term : FnScope ["places", "thing", "many", "todo", "path", "part", "k"] ["places", "thing"] (defScope s_wrong_in_term) := fnScope_by (by decide +kernel)
abbrev s_term_wrong : Stmt := topS 34
theorem sc_term_wrong : FnScope ["signature", "thing"] ["signature", "thing"] (defScope s_term_wrong) := fnScope_by (by decide +kernel)
abbrev s_need_term : Stmt := topS 35
theorem sc_need_term : FnScope ["signature", "term"] ["signature", "term"] (defScope s_need_term) := fnScope_by (by decide +kernel)
abbrev s_is_size : Stmt := topS 37
theorem sc_is_size : FnScope ["thing"] ["thing"] (defScope s_is_size) := fnScope_by (by decide +kernel)
abbrev s_first_odd_cell : Stmt := topS 38
theorem sc_first_odd_cell : FnScope ["size", "tables", "k", "table", "at", "number"] ["size", "tables"] (defScope s_first_odd_cell) := fnScope_by (by decide +kernel)
abbrev s_model_wrong : Stmt := topS 39
theorem sc_model_wrong : FnScope ["signature", "thing", "size", "tables", "k", "deed", "odd"] ["signature", "thing"] (defScope s_model_wrong) := fnScope_by (by decide +kernel)
abbrev s_need_model : Stmt := topS 40
theorem sc_need_model : FnScope ["signature", "model"] ["signature", "model"] (defScope s_need_model) := fnScope_by (by decide +kernel)
abbrev s_is_reading_of_deed : Stmt := topS 42
theorem sc_is_reading_of_deed : FnScope ["places", "others", "thing", "name"] ["places", "others", "thing"] (defScope s_is_reading_of_deed) := fnScope_by (by decide +kernel)
abbrev s_reading_wrong : Stmt := topS 43
theorem sc_reading_wrong : FnScope ["signature", "other", "thing", "others", "k", "deed"] ["signature", "other", "thing"] (defScope s_reading_wrong) := fnScope_by (by decide +kernel)
abbrev s_need_reading : Stmt := topS 44
theorem sc_need_reading : FnScope ["signature", "other", "reading"] ["signature", "other", "reading"] (defScope s_need_reading) := fnScope_by (by decide +kernel)
abbrev s_term_read : Stmt := topS 49
theorem sc_term_read : FnScope ["signature", "other", "reading", "term"] ["signature", "other", "reading", "term"] (defScope s_term_read) := fnScope_by (by decide +kernel)
abbrev s_model_read : Stmt := topS 50
theorem sc_model_read : FnScope ["signature", "other", "reading", "model", "tables", "deed", "term"] ["signature", "other", "reading", "model"] (defScope s_model_read) := fnScope_by (by decide +kernel)
abbrev s_two_read : Stmt := topS 51
theorem sc_two_read : FnScope ["first", "second", "third", "one", "two", "by_names", "term"] ["first", "second", "third", "one", "two"] (defScope s_two_read) := fnScope_by (by decide +kernel)
abbrev s__law_mixed : Stmt := topS 53
theorem sc__law_mixed : FnScope ["_law_cell", "_law_k", "_law_number"] ["_law_cell", "_law_k"] (defScope s__law_mixed) := fnScope_by (by decide +kernel)
abbrev s__law_pile : Stmt := topS 54
theorem sc__law_pile : FnScope ["_law_script", "_law_k", "_law_cell", "_law_digits"] ["_law_script", "_law_k"] (defScope s__law_pile) := fnScope_by (by decide +kernel)
abbrev s__law_take : Stmt := topS 55
theorem sc__law_take : FnScope ["_law_pile_here", "_law_many", "_law_digit"] ["_law_pile_here", "_law_many"] (defScope s__law_take) := fnScope_by (by decide +kernel)
abbrev s__law_order : Stmt := topS 56
theorem sc__law_order : FnScope ["_law_pile_here", "_law_some", "_law_left", "_law_found"] ["_law_pile_here", "_law_some"] (defScope s__law_order) := fnScope_by (by decide +kernel)
abbrev s__law_word : Stmt := topS 57
theorem sc__law_word : FnScope ["_law_pile_here", "_law_letters_here", "_law_word_here", "_law_k"] ["_law_pile_here"] (defScope s__law_word) := fnScope_by (by decide +kernel)
abbrev s__law_signature : Stmt := topS 58
theorem sc__law_signature : FnScope ["_law_pile_here", "_law_names", "_law_k", "_law_word_here", "_law_found", "_law_one"] ["_law_pile_here"] (defScope s__law_signature) := fnScope_by (by decide +kernel)
abbrev s__law_term : Stmt := topS 59
theorem sc__law_term : FnScope ["_law_pile_here", "_law_sig", "_law_letters_here", "_law_depth", "_law_ends", "_law_deeds", "_law_word_here", "_law_places", "_law_x", "_law_deed", "_law_k"] ["_law_pile_here", "_law_sig", "_law_letters_here", "_law_depth"] (defScope s__law_term) := fnScope_by (by decide +kernel)
abbrev s__law_parts : Stmt := topS 60
theorem sc__law_parts : FnScope ["_law_term_here", "_law_found", "_law_k", "_law_piece", "_law_path", "_law_one"] ["_law_term_here"] (defScope s__law_parts) := fnScope_by (by decide +kernel)
abbrev s__law_letters : Stmt := topS 61
theorem sc__law_letters : FnScope ["_law_term_here", "_law_there", "_law_path", "_law_piece", "_law_x"] ["_law_term_here"] (defScope s__law_letters) := fnScope_by (by decide +kernel)
abbrev s__law_reading : Stmt := topS 62
theorem sc__law_reading : FnScope ["_law_pile_here", "_law_sig", "_law_other", "_law_found", "_law_word_here", "_law_places"] ["_law_pile_here", "_law_sig", "_law_other"] (defScope s__law_reading) := fnScope_by (by decide +kernel)
abbrev s__law_strange : Stmt := topS 63
theorem sc__law_strange : FnScope ["_law_pile_here", "_law_word_here", "_law_some"] ["_law_pile_here", "_law_word_here"] (defScope s__law_strange) := fnScope_by (by decide +kernel)
abbrev s__law_bent : Stmt := topS 64
theorem sc__law_bent : FnScope ["_law_pile_here", "_law_own", "_law_sig", "_law_kind_here", "_law_at", "_law_word_here"] ["_law_pile_here", "_law_own", "_law_sig"] (defScope s__law_bent) := fnScope_by (by decide +kernel)
abbrev s__law_due : Stmt := topS 65
theorem sc__law_due : FnScope ["_law_sig", "_law_other", "_law_thing", "_law_k", "_law_word_here", "_law_places", "_law_x"] ["_law_sig", "_law_other", "_law_thing"] (defScope s__law_due) := fnScope_by (by decide +kernel)
abbrev s__law_kind : Stmt := topS 66
theorem sc__law_kind : FnScope ["_law_error", "_law_some", "_law_words", "_law_word_here", "_law_truth"] ["_law_error"] (defScope s__law_kind) := fnScope_by (by decide +kernel)
abbrev s__law_caught : Stmt := topS 67
theorem sc__law_caught : FnScope ["_law_which", "_law_first", "_law_second", "_law_thing", "_law_error", "e"] ["_law_which", "_law_first", "_law_second", "_law_thing"] (defScope s__law_caught) := fnScope_by (by decide +kernel)
abbrev s__law_refused : Stmt := topS 68
theorem sc__law_refused : FnScope ["_law_first", "_law_second", "_law_thing", "_law_due_here", "_law_which"] ["_law_first", "_law_second", "_law_thing"] (defScope s__law_refused) := fnScope_by (by decide +kernel)
abbrev s_law : Stmt := topS 69
theorem sc_law : FnScope ["_law_script", "_law_k", "_law_pile_here", "_law_first", "_law_second", "_law_own", "_law_thing", "_law_kept", "_law_odd", "_law_which"] ["_law_script"] (defScope s_law) := fnScope_by (by decide +kernel)
/-- what the module's names hold -/
structure Txt (mg : Str → Option Value) : Prop where
  z_ValueError : mg "ValueError" = none
  z_abs : mg "abs" = none
  z_all : mg "all" = none
  z_bool : mg "bool" = none
  z_dict : mg "dict" = none
  z_enumerate : mg "enumerate" = none
  z_int : mg "int" = none
  z_isinstance : mg "isinstance" = none
  z_len : mg "len" = none
  z_list : mg "list" = none
  z_range : mg "range" = none
  z_reversed : mg "reversed" = none
  z_set : mg "set" = none
  z_sorted : mg "sorted" = none
  z_str : mg "str" = none
  z_tuple : mg "tuple" = none
  z_zip : mg "zip" = none
  c_NAME_LETTERS : ∃ t, mg "NAME_LETTERS" = some (.str "abcdefghijklmnopqrst" t)
  c_MOST_NAME : ∃ t, mg "MOST_NAME" = some (.int 4 t)
  c_MOST_DEEDS : ∃ t, mg "MOST_DEEDS" = some (.int 4 t)
  c_MOST_PLACES : ∃ t, mg "MOST_PLACES" = some (.int 2 t)
  c_MOST_PARTS : ∃ t, mg "MOST_PARTS" = some (.int 60 t)
  c_MOST_SIZE : ∃ t, mg "MOST_SIZE" = some (.int 6 t)
section
variable {X : Cx} {x : Str} {pos : Pos}
theorem pe_gi {i : Int} (hg : Gl X x) (h : ∃ t, X.mg x = some (.int i t)) (hn : x ≠ "__name__" := by decide) (hd : (x == ("__debug__" : Str)) = false := by decide) : PE X (.Name x pos) (tC (.int i)) := by
  obtain ⟨t, e⟩ := h
  exact pe_glob hg e ⟨t, rfl⟩ (hd := hd)
theorem pe_gs {z : Str} (hg : Gl X x) (h : ∃ t, X.mg x = some (.str z t)) (hn : x ≠ "__name__" := by decide) (hd : (x == ("__debug__" : Str)) = false := by decide) : PE X (.Name x pos) (tC (.str z)) := by
  obtain ⟨t, e⟩ := h
  exact pe_glob hg e ⟨t, rfl⟩ (hd := hd)
theorem pe_ty (n : String) (hg : Gl X x) (hm : X.mg x = none) (hv : bootBuiltins x = some (.type n)) (hn : x ≠ "__name__" := by decide) (hd : (x == ("__debug__" : Str)) = false := by decide) : PE X (.Name x pos) (tC (.ty n)) := pe_bltn hg hm hv rfl (hn := hn) (hd := hd)
theorem ip_mul : PIp X .Mult (rI CMul fun i j => .int (i * j)) := iop_mul
end
section
variable {P : Program} {w : World} {K : PySem.W.Frag} {mg : Str → Option Value} {base : Heap}
/-! ### is_whole, is_below, power -/
def sp_is_whole : Sp := spX (fun (i : Int) vs _ => vs = [.int i]) (fun _ v _ => v = .bl true)
theorem c_is_whole (T : Txt mg) (D : Df K mg "is_whole" s_is_whole ["thing"]) : Cl P w K mg base 1 "is_whole" sp_is_whole := by
  refine cl_of (k := 0) D sc_is_whole (fun vs H Q E h => ?_) (fun f cdv A outer s H vs Q E hr h => ?_)
  · obtain ⟨i, rfl, _⟩ := h
    rfl
  · obtain ⟨i, rfl, q⟩ := h
    refine ⟨_, (pss_one (ps_ret (pe_and (pe_callB call_isi (by rfl) T.z_isinstance (by decide +kernel) (pa_cons (pv 0) (pa_cons (pe_ty "int" (by rfl) T.z_int (by decide +kernel)) pa_nil))) (pe_one (pe_not (pe_callB call_isi (by rfl) T.z_isinstance (by decide +kernel) (pa_cons (pv 0) (pa_cons (pe_ty "bool" (by rfl) T.z_bool (by decide +kernel)) pa_nil)))))))), ?_⟩
    exact s_ret (ev_andV (ev_isi (ev_var rfl) ev_c (.ty _) (fun _ _ => tyx_int i) kit_ii) (fun _ => ev_notV (ev_isi (ev_var rfl) ev_c (.ty _) (fun _ _ => tyx_int i) kit_ib))) fun H1 e => q _ H1 e rfl
def sp_is_below : Sp := spX (fun (p : Int × Int) vs _ => vs = [.int p.1, .int p.2] ∧ 0 ≤ p.1 ∧ p.1 < p.2) (fun _ v _ => v = .bl true)
theorem c_is_below (T : Txt mg) (D : Df K mg "is_below" s_is_below ["thing", "size"]) (c_is_whole : Cl P w K mg base 1 "is_whole" sp_is_whole) : Cl P w K mg base 2 "is_below" sp_is_below := by
  refine cl_of (k := 1) D sc_is_below (fun vs H Q E h => ?_) (fun f cdv A outer s H vs Q E hr h => ?_)
  · obtain ⟨p, ⟨rfl, _⟩, _⟩ := h
    rfl
  · obtain ⟨⟨i, n⟩, ⟨rfl, h0, h1⟩, q⟩ := h
    refine ⟨_, (pss_one (ps_ret (pe_and (pe_cl c_is_whole hr (by first | decide | omega) (by rfl) (pa_cons (pv 0) pa_nil)) (pe_one (pe_chain op_le op_lt pe_int (pv 0) (pv 1)))))), ?_⟩
    refine s_ret (ev_andV (ev_callV (v := .bl true) i (ea_cons (ev_var rfl) ea_nil) (fun _ _ => rfl) (fun _ _ p => p)) (fun _ => ev_chain ev_c (ev_var rfl) (fun _ => ev_var rfl) rv_I0 (fun _ => rv_I0))) fun H1 e => q _ H1 e ?_
    show V.bl (true && (decide (0 ≤ i) && decide (i < n))) = _
    rw [decide_eq_true h0, decide_eq_true h1]
    rfl
def sp_power : Sp := spX (fun (p : Nat × Nat) vs _ => vs = [vi p.1, vi p.2] ∧ p.1 ≤ 6 ∧ p.2 ≤ 4) (fun p v _ => v = vi (p.1 ^ p.2))
theorem c_power (T : Txt mg) (D : Df K mg "power" s_power ["base", "many"]) : Cl P w K mg base 1 "power" sp_power := by
  refine cl_of (k := 0) D sc_power (fun vs H Q E h => ?_) (fun f cdv A outer s H vs Q E hr h => ?_)
  · obtain ⟨p, ⟨rfl, _⟩, _⟩ := h
    rfl
  · obtain ⟨⟨b, m⟩, ⟨rfl, hb, hm⟩, q⟩ := h
    refine ⟨_, (pss_cons (ps_set (i := 2) sc_power.nd rfl (.inl rfl) pe_int)
      (pss_cons (ps_for PassesOwn.never (by rfl) (pi_range1 (by rfl) T.z_range (pa_cons (pv 1) pa_nil)) (pg_name (i := 3) sc_power.nd rfl (.inl rfl))
        (pss_one (ps_aug (i := 2) sc_power.nd rfl (.inl rfl) (pv 0) ip_mul)))
      (pss_one (ps_ret (pv 2))))), ?_⟩
    refine q_asg ev_c fun H1 e1 => ?_
    refine q_forR1 (ea_cons (ev_var rfl) ea_nil) (by omega) (fun i σ H' => ∃ y, σ = [some (vi b), some (vi m), some (vi (b ^ i)), y] ∧ Ex H H') (fun H2 e2 => ⟨none, rfl, e1.trans e2⟩) (fun i σ H' hi ⟨y, hσ, e⟩ => ?_) (fun σ H' ⟨y, hσ, e⟩ => ?_)
    · subst hσ
      refine ⟨_, rfl, _, rfl, ((b ^ i : Nat) : Int), (b : Int), rfl, rfl, .inr ⟨by omega, by omega⟩, some (vi i), ?_, e⟩
      show [some (vi b), some (vi m), some (.int (((b ^ i : Nat) : Int) * (b : Int))), some (vi i)] = [some (vi b), some (vi m), some (vi (b ^ (i + 1))), some (vi i)]
      rw [Nat.pow_succ]
      show _ = [some (vi b), some (vi m), some (.int ((b ^ i * b : Nat) : Int)), some (vi i)]
      rw [Int.natCast_mul]
    · subst hσ
      exact s_ret (ev_var rfl) fun H2 e2 => q _ H2 (e.trans e2) rfl
end
end K11
end
section
namespace K11
open PySem PySem.Spec PyProof.Rows L2 Evl Dw M20
section
variable {P : Program} {w : World} {K : PySem.W.Frag} {mg : Str → Option Value} {base : Heap}
theorem ix_tupK {X : Cx} (K : PySem.W.Frag) (h : X.K = K := by rfl) : IxR X (rIxT K) := by
  subst h
  exact ix_tup
/-! ### names, deeds, signatures -/
def letters : Str := "abcdefghijklmnopqrst"
structure Name (z : Str) : Prop where
  l1 : 1 ≤ z.length
  l4 : z.length ≤ 4
  abc : ∀ c ∈ z.cps.toList, c ∈ letters.cps.toList
def sp_is_name : Sp := spX (fun (z : Str) vs _ => vs = [.str z] ∧ Name z) (fun _ v _ => v = .bl true)
theorem c_is_name (T : Txt mg) (D : Df K mg "is_name" s_is_name ["thing"]) : Cl P w K mg base 1 "is_name" sp_is_name := by
  refine cl_of (k := 0) D sc_is_name (fun vs H Q E h => ?_) (fun f cdv A outer s H vs Q E hr h => ?_)
  · obtain ⟨p, ⟨rfl, _⟩, _⟩ := h
    rfl
  · obtain ⟨z, ⟨rfl, hz⟩, q⟩ := h
    refine ⟨_, (pss_cons (ps_if (PW.pt (pw_or (pt_not (pt_val (pe_callB call_isi (by rfl) T.z_isinstance (by decide +kernel) (pa_cons (pv 0) (pa_cons (pe_ty "str" (by rfl) T.z_str (by decide +kernel)) pa_nil))))) (pw_or1 (pt_not (pt_chain op_le op_le pe_int (pe_callB call_len_str (by rfl) T.z_len PySem.boot_len (pa_cons (pv 0) pa_nil)) (pe_gi (by rfl) T.c_MOST_NAME))))))
        (pss_one (ps_ret pe_bl))
        pss_nil)
      (pss_one (ps_ret (pe_callB (cr_all rfl) (by rfl) T.z_all (by decide +kernel) (pa_cons (pe_lc (own := [("sign", 1)]) (g := (gName 1)) (by rfl) sc_is_name.nd (pi_str (pv 0)) (blkOk_by (own := [("sign", 1)]) (N := ["thing", "sign"]) (sc := defScope s_is_name) (by decide +kernel)) (fun _ _ _ _ _ => (pg_name (i := 1) sc_is_name.nd rfl (.inl rfl))) (fun _ _ _ _ _ => pts_nil) (fun _ _ _ _ _ => (pe_cmpR op_in_sign (pv 1) (pe_gs (by rfl) T.c_NAME_LETTERS) (by rfl)))) pa_nil))))), ?_⟩
    have h1 := hz.l1
    have h4 := hz.l4
    have hs : z.cps.size = z.length := rfl
    refine q_when (b := false) (et_is (et_or (et_not (et_val (ev_isi (ev_var rfl) ev_c (.ty _) (fun _ _ => tyx_str z) kit_ss))) (fun _ => et_not (et_test (ev_chain ev_c (ev_lenS (ev_var rfl) (by omega)) (fun _ => ev_c) rv_I0 (fun _ => rv_I0))))) ?_) (fun hb => by cases hb) (fun _ H1 e1 => ?_)
    · show (!true || !(decide ((1 : Int) ≤ (z.length : Int)) && decide ((z.length : Int) ≤ 4))) = false
      rw [decide_eq_true (by omega), decide_eq_true (by omega)]
      rfl
    · refine s_ret (ev_all (bs := List.replicate z.cps.size true) ?_) fun H2 e2 => q _ H2 (e1.trans e2) ?_
      · have e : (List.replicate z.cps.size true).map V.bl = (List.range z.cps.size).map (fun _ => V.bl true) := by
          rw [List.map_const', List.length_range, List.map_replicate]
        rw [e]
        refine el_lcS (ev_var rfl) (fun _ => .bl true) (by omega) (fun _ => rfl) (fun i c H2 e2 hc => ?_)
        refine ev_op (ev_var rfl) ev_c ?_
        have hm : c ∈ letters.cps.toList := hz.abc c (by
          obtain ⟨hi, e⟩ := Array.getElem?_eq_some_iff.mp hc
          rw [← e]
          exact Array.getElem_mem_toList hi)
        exact fun H3 _ Q q3 => ⟨c, letters, rfl, rfl, by rw [decide_eq_true hm]; exact q3 H3 (Ex.refl H3)⟩
      · show V.bl ((List.replicate z.cps.size true).all id) = V.bl true
        rw [show (List.replicate z.cps.size true).all id = true from List.all_eq_true.mpr (fun b hb => (List.mem_replicate.mp hb).2)]
def sp_is_deed (K : PySem.W.Frag) : Sp := spX (fun (p : Str × Nat) vs H => (∃ v, vs = [v] ∧ Deed K H v p) ∧ Name p.1 ∧ p.2 ≤ 2) (fun _ v _ => v = .bl true)
theorem c_is_deed (T : Txt mg) (D : Df K mg "is_deed" s_is_deed ["thing"]) (c_is_name : Cl P w K mg base 1 "is_name" sp_is_name) (c_is_below : Cl P w K mg base 2 "is_below" sp_is_below) : Cl P w K mg base 3 "is_deed" (sp_is_deed K) := by
  refine cl_of (k := 2) D sc_is_deed (fun vs H Q E h => ?_) (fun f cdv A outer s H vs Q E hr h => ?_)
  · obtain ⟨p, ⟨⟨v, rfl, _⟩, _⟩, _⟩ := h
    rfl
  · obtain ⟨⟨z, p⟩, ⟨⟨v, rfl, b, rfl, hb⟩, hz, hp⟩, q⟩ := h
    refine ⟨_, (pss_one (ps_ret (pe_and (pe_callB call_isi (by rfl) T.z_isinstance (by decide +kernel) (pa_cons (pv 0) (pa_cons (pe_ty "tuple" (by rfl) T.z_tuple (by decide +kernel)) pa_nil))) (pe_and (pe_cmpR op_eq (pe_callB call_len_seq (by rfl) T.z_len PySem.boot_len (pa_cons (pv 0) pa_nil)) pe_int (nomark _)) (pe_and (pe_cl c_is_name hr (by first | decide | omega) (by rfl) (pa_cons (pe_ix ix_tup (pv 0) pe_int (fun _ _ => rfl)) pa_nil)) (pe_one (pe_cl c_is_below hr (by first | decide | omega) (by rfl) (pa_cons (pe_ix ix_tup (pv 0) pe_int (fun _ _ => rfl)) (pa_cons (pe_op op_add (pe_gi (by rfl) T.c_MOST_PLACES) pe_int) pa_nil))))))))), ?_⟩
    refine s_ret (ev_andV (ev_isi (ev_var rfl) ev_c (.ty _) (fun _ e => tyx_tup (ex_t e hb)) kit_tt) (fun _ => ev_andV (ev_op (ev_lenT (ev_var rfl) hb) ev_c (rv_eq rfl)) (fun _ =>
      ev_andV (ev_callV (v := .bl true) z (ea_cons (ev_op (ev_var rfl) ev_c (rv_ixT hb (atI_vi (k := 0) rfl))) ea_nil) (fun _ _ => ⟨rfl, hz⟩) (fun _ _ p => p)) (fun _ =>
        ev_callV (v := .bl true) (((p : Nat) : Int), (3 : Int)) (ea_cons (ev_op (ev_var rfl) ev_c (rv_ixT hb (atI_vi (k := 1) rfl))) (ea_cons (ev_op ev_c ev_c rv_I0) ea_nil)) (fun _ _ => ⟨rfl, by show (0 : Int) ≤ (p : Int); omega, by show (p : Int) < 3; have : p ≤ 2 := hp; omega⟩) (fun _ _ p => p))))) fun H1 e => q _ H1 e rfl
/-- a signature as the law draws it -/
structure SigOk (sg : List (Str × Nat)) : Prop where
  l1 : 1 ≤ sg.length
  l4 : sg.length ≤ 4
  nm : ∀ p ∈ sg, Name p.1
  pl : ∀ p ∈ sg, p.2 ≤ 2
  nd : (sg.map (·.1)).Nodup
def sp_signature_wrong (K : PySem.W.Frag) : Sp := spX (fun (sg : List (Str × Nat)) vs H => (∃ v, vs = [v] ∧ Sig K H v sg) ∧ SigOk sg) (fun _ v _ => v = .non)
theorem c_signature_wrong (T : Txt mg) (D : Df K mg "signature_wrong" s_signature_wrong ["thing"]) (c_is_deed : Cl P w K mg base 3 "is_deed" (sp_is_deed K)) : Cl P w K mg base 4 "signature_wrong" (sp_signature_wrong K) := by
  refine cl_of (k := 3) D sc_signature_wrong (fun vs H Q E h => ?_) (fun f cdv A outer s H vs Q E hr h => ?_)
  · obtain ⟨p, ⟨⟨v, rfl, _⟩, _⟩, _⟩ := h
    rfl
  · obtain ⟨sg, ⟨⟨v, rfl, a, us, rfl, hS, hP⟩, ok⟩, q⟩ := h
    refine ⟨_, (pss_cons (ps_if (PW.pt (pw_or (pt_not (pt_val (pe_callB call_isi (by rfl) T.z_isinstance (by decide +kernel) (pa_cons (pv 0) (pa_cons (pe_ty "tuple" (by rfl) T.z_tuple (by decide +kernel)) pa_nil))))) (pw_or1 (pt_not (pt_chain op_le op_le pe_int (pe_callB call_len_seq (by rfl) T.z_len PySem.boot_len (pa_cons (pv 0) pa_nil)) (pe_gi (by rfl) T.c_MOST_DEEDS))))))
        (pss_one (ps_ret (pe_tup (pa_cons pe_str pa_nil))))
        pss_nil)
      (pss_cons (ps_for PassesOwn.never (by rfl) (pi_enumT (by rfl) T.z_enumerate (pa_cons (pv 0) pa_nil)) (pg_tup (by rfl) (pgs_cons (pg_name (i := 1) sc_signature_wrong.nd rfl (.inl rfl)) (pgs_cons (pg_name (i := 2) sc_signature_wrong.nd rfl (.inl rfl)) pgs_nil)))
        (pss_one (ps_if (pt_not (pt_val (pe_cl c_is_deed hr (by first | decide | omega) (by rfl) (pa_cons (pv 2) pa_nil))))
          (pss_one (ps_ret (pe_tup (pa_cons pe_str (pa_cons (pv 1) pa_nil)))))
          pss_nil)))
      (pss_cons (ps_setLc (i := 3) (own := [("deed", 2)]) (g := (gName 2)) (by rfl) sc_signature_wrong.nd rfl rfl (sw_true rfl rfl rfl (by decide +kernel)) (pi_tup (pv 0)) (blkOk_by (own := [("deed", 2)]) (N := ["thing", "k", "deed", "names", "name"]) (sc := defScope s_signature_wrong) (by decide +kernel)) (fun _ _ _ _ _ => (pg_name (i := 2) sc_signature_wrong.nd rfl (.inl rfl))) (fun _ _ _ _ _ => pts_nil) (fun _ _ _ _ _ => (pe_ix (ix_tupK K) (pv 2) pe_int (fun _ _ => rfl))))
      (pss_cons (ps_for PassesOwn.never (by rfl) (pi_enum (by rfl) T.z_enumerate (pa_cons (pv 3) pa_nil)) (pg_tup (by rfl) (pgs_cons (pg_name (i := 1) sc_signature_wrong.nd rfl (.inl rfl)) (pgs_cons (pg_name (i := 4) sc_signature_wrong.nd rfl (.inl rfl)) pgs_nil)))
        (pss_one (ps_if (pt_cmpR op_in_seq (pv 4) (pe_slice sl_list (pv 3) po_none (po_some (pv 1))) (by rfl))
          (pss_one (ps_ret (pe_tup (pa_cons pe_str (pa_cons (pv 1) pa_nil)))))
          pss_nil)))
      (pss_one (ps_ret pe_non)))))), ?_⟩
    have h1 := ok.l1
    have h4 := ok.l4
    have hl : us.length = sg.length := paired_len hP
    refine q_when (b := false) (et_is (et_or (et_not (et_val (ev_isi (ev_var rfl) ev_c (.ty _) (fun _ e => tyx_tup (ex_t e hS)) kit_tt))) (fun _ => et_not (et_test (ev_chain ev_c (ev_lenT (ev_var rfl) hS) (fun _ => ev_c) rv_I0 (fun _ => rv_I0))))) ?_) (fun hb => by cases hb) (fun _ H1 e1 => ?_)
    · show (!true || !(decide ((1 : Int) ≤ (us.length : Int)) && decide ((us.length : Int) ≤ 4))) = false
      rw [decide_eq_true (by omega), decide_eq_true (by omega)]
      rfl
    -- each is a deed
    refine q_enumT (ea_cons (ev_var rfl) ea_nil) (ex_t e1 hS) (fun i σ H' => Ex H H' ∧ ∃ y1 y2, σ = [some (.ref a), y1, y2, none, none]) (fun H2 e2 => ⟨e1.trans e2, none, none, rfl⟩) (fun i σ H' _ ⟨e, _⟩ => ex_t e hS) (fun i x σ H2 H3 hx ⟨e, y1, y2, hσ⟩ e3 => ?_) (fun σ H2 ⟨e2, y1, y2, hσ⟩ => ?_)
    · subst hσ
      have hi : i < sg.length := by rw [← hl]; exact (List.getElem?_eq_some_iff.mp hx).1
      obtain ⟨x', ex', dx⟩ := paired_get hP (List.getElem?_eq_getElem hi)
      have : x' = x := Option.some.inj (ex'.symm.trans hx)
      subst this
      have hm : sg[i] ∈ sg := List.getElem_mem hi
      have e03 : Ex H H3 := e.trans e3
      refine s_when (b := false) (et_is (et_not (et_val (ev_callV (v := .bl true) sg[i] (ea_cons (ev_var rfl) ea_nil) (fun H4 e4 => ⟨⟨_, rfl, dx.et (Dw.Ex.et (e03.trans e4))⟩, ok.nm _ hm, ok.pl _ hm⟩) (fun _ _ p => p)))) rfl) (fun hb => by cases hb) (fun _ H4 e4 => ⟨e03.trans e4, _, _, rfl⟩)
    · subst hσ
      -- the names
      have names : EvL (tLc (iTup K (tVar 0)) (gName 2) tYes (tOp (rIxT K) (tVar 2) (tC (.int 0))) [2]) [some (.ref a), y1, y2, none, none] H2 ((List.range us.length).map fun i => .str (sg.getD i ("", 0)).1) := by
        refine el_lcT (ev_var rfl) (ex_t e2 hS) _ (by omega) (fun _ => rfl) (fun i x H3 e3 hx => ?_)
        have hi : i < sg.length := by rw [← hl]; exact (List.getElem?_eq_some_iff.mp hx).1
        obtain ⟨x', ex', b, hb, hd⟩ := paired_get hP (List.getElem?_eq_getElem hi)
        have : x' = x := Option.some.inj (ex'.symm.trans hx)
        subst this
        subst hb
        rw [List.getD_eq_getElem?_getD, List.getElem?_eq_getElem hi]
        exact ev_op (ev_var rfl) ev_c (rv_ixT (ex_t (e2.trans e3) hd) (atI_vi (k := 0) rfl))
      rw [hl] at names
      have eN : ((List.range sg.length).map fun i => V.str (sg.getD i ("", 0)).1) = (sg.map (·.1)).map V.str := by
        apply List.ext_getElem?
        intro i
        by_cases hi : i < sg.length
        · rw [List.getElem?_map, List.getElem?_range hi, List.getElem?_map, List.getElem?_map, List.getElem?_eq_getElem hi]
          show some (V.str (sg.getD i ("", 0)).1) = some (V.str sg[i].1)
          rw [List.getD_eq_getElem?_getD, List.getElem?_eq_getElem hi]
          rfl
        · rw [List.getElem?_eq_none_iff.mpr (by simp; omega), List.getElem?_eq_none_iff.mpr (by simp; omega)]
      rw [eN] at names
      refine q_asgL names fun p H3 np e3 hp => ?_
      have e03 : Ex H H3 := e2.trans e3
      refine q_enumL (K := K) (ea_cons (ev_var rfl) ea_nil) (sq_of hp) (fun i σ H' => Ex H3 H' ∧ ∃ z1 z4, σ = [some (.ref a), z1, y2, some (.ref p), z4]) (fun H4 e4 => ⟨e4, _, _, rfl⟩) (fun i σ H' _ ⟨e, _⟩ => ex_l e (sq_of hp)) (fun i x σ H4 H5 hx ⟨e4, z1, z4, hσ⟩ e5 => ?_) (fun σ H4 ⟨e4, z1, z4, hσ⟩ => ?_)
      · subst hσ
        have hi : i < (sg.map (·.1)).length := by simpa using (List.getElem?_eq_some_iff.mp hx).1
        have ex : x = .str (sg.map (·.1))[i] := by
          rw [List.getElem?_map, List.getElem?_eq_getElem hi] at hx
          exact (Option.some.inj hx).symm
        subst ex
        have cut : cutV ((sg.map (·.1)).map V.str) none (some (i : Int)) = ((sg.map (·.1)).take i).map V.str := by
          unfold cutV
          rw [HT.sIx_none, HT.sIx_nat, List.length_map, Nat.sub_zero, List.drop_zero, ← List.map_take, Nat.min_eq_left (Nat.le_of_lt hi)]
        have flat : (((sg.map (·.1)).take i).map V.str).all flatV = true := List.all_eq_true.mpr (fun v hv => by
          obtain ⟨z, _, rfl⟩ := List.mem_map.mp hv
          rfl)
        have out : inV (.str (sg.map (·.1))[i]) (((sg.map (·.1)).take i).map V.str) = false := by
          unfold inV
          rw [List.any_eq_false]
          intro v hv
          obtain ⟨z, hz, rfl⟩ := List.mem_map.mp hv
          show ¬ (z == (sg.map (·.1))[i]) = true
          intro he
          have he' : z = (sg.map (·.1))[i] := eq_of_beq he
          obtain ⟨j, hj, ej⟩ := List.mem_take_iff_getElem.mp hz
          have hji : j < i := by omega
          have := (List.getElem_inj ok.nd).mp (ej.trans he')
          omega
        have eL : Ex H3 H5 := e4.trans e5
        have sl : EvL (tSl (rSlL K) (tVar 3) tNoPart (tPart (tVar 1))) [some (.ref a), some (vi i), y2, some (.ref p), some (.str (sg.map (·.1))[i])] H5 (((sg.map (·.1)).take i).map V.str) := by
          rw [← cut]
          exact el_sl (ev_var rfl) eo_none (eo_some (ev_var rfl)) (ex_l eL (sq_of hp))
        exact s_when (b := false) (et_is (et_test (ev_opL (ev_var rfl) sl (fun r H6 hr6 _ => rv_isL (sq_of hr6) rfl flat))) out) (fun hb => by cases hb) (fun _ H6 e6 => ⟨eL.trans e6, _, _, rfl⟩)
      · subst hσ
        exact s_ret ev_c fun H5 e5 => q _ H5 ((e03.trans e4).trans e5) rfl
def sp_need_signature (K : PySem.W.Frag) : Sp := spX (fun (sg : List (Str × Nat)) vs H => (∃ v, vs = [v] ∧ Sig K H v sg) ∧ SigOk sg) (fun _ v _ => v = .non)
theorem c_need_signature (T : Txt mg) (D : Df K mg "need_signature" s_need_signature ["signature"]) (c_signature_wrong : Cl P w K mg base 4 "signature_wrong" (sp_signature_wrong K)) : Cl P w K mg base 5 "need_signature" (sp_need_signature K) := by
  refine cl_of (k := 4) D sc_need_signature (fun vs H Q E h => ?_) (fun f cdv A outer s H vs Q E hr h => ?_)
  · obtain ⟨p, ⟨⟨v, rfl, _⟩, _⟩, _⟩ := h
    rfl
  · obtain ⟨sg, ⟨⟨v, rfl, hS⟩, ok⟩, q⟩ := h
    refine ⟨_, (pss_one (ps_if (pt_cmpR op_notN (pe_cl c_signature_wrong hr (by first | decide | omega) (by rfl) (pa_cons (pv 0) pa_nil)) pe_non (nomark _))
        (pss_one ps_never)
        pss_nil)), ?_⟩
    exact s_when (b := false) (et_is (et_isN (ev_callV (v := .non) sg (ea_cons (ev_var rfl) ea_nil) (fun H1 e1 => ⟨⟨_, rfl, hS.ex e1⟩, ok⟩) (fun _ _ p => p))) rfl) (fun hb => by cases hb) (fun _ H1 e1 => q _ H1 e1 rfl)
/-! ### models looked at -/
def sp_is_size : Sp := spX (fun (n : Nat) vs _ => vs = [vi n] ∧ 1 ≤ n ∧ n ≤ 6) (fun _ v _ => v = .bl true)
theorem c_is_size (T : Txt mg) (D : Df K mg "is_size" s_is_size ["thing"]) (c_is_whole : Cl P w K mg base 1 "is_whole" sp_is_whole) : Cl P w K mg base 2 "is_size" sp_is_size := by
  refine cl_of (k := 1) D sc_is_size (fun vs H Q E h => ?_) (fun f cdv A outer s H vs Q E hr h => ?_)
  · obtain ⟨p, ⟨rfl, _⟩, _⟩ := h
    rfl
  · obtain ⟨n, ⟨rfl, h1, h6⟩, q⟩ := h
    refine ⟨_, (pss_one (ps_ret (pe_and (pe_cl c_is_whole hr (by first | decide | omega) (by rfl) (pa_cons (pv 0) pa_nil)) (pe_one (pe_chain op_le op_le pe_int (pv 0) (pe_gi (by rfl) T.c_MOST_SIZE)))))), ?_⟩
    refine s_ret (ev_andV (ev_callV (v := .bl true) (n : Int) (ea_cons (ev_var rfl) ea_nil) (fun _ _ => rfl) (fun _ _ p => p)) (fun _ => ev_chain ev_c (ev_var rfl) (fun _ => ev_c) rv_I0 (fun _ => rv_I0))) fun H1 e => q _ H1 e ?_
    show V.bl (true && (decide ((1 : Int) ≤ (n : Int)) && decide ((n : Int) ≤ 6))) = _
    rw [decide_eq_true (by omega), decide_eq_true (by omega)]
    rfl
def sp_first_odd_cell (K : PySem.W.Frag) : Sp := spX (fun (p : Nat × List (List Nat)) vs H => (∃ v, vs = [vi p.1, v] ∧ Tabs K H v p.2) ∧ ∀ t ∈ p.2, ∀ k ∈ t, k < p.1) (fun _ v _ => v = .non)
theorem c_first_odd_cell (T : Txt mg) (D : Df K mg "first_odd_cell" s_first_odd_cell ["size", "tables"]) (c_is_below : Cl P w K mg base 2 "is_below" sp_is_below) : Cl P w K mg base 3 "first_odd_cell" (sp_first_odd_cell K) := by
  refine cl_of (k := 2) D sc_first_odd_cell (fun vs H Q E h => ?_) (fun f cdv A outer s H vs Q E hr h => ?_)
  · obtain ⟨p, ⟨⟨v, rfl, _⟩, _⟩, _⟩ := h
    rfl
  · obtain ⟨⟨n, ts⟩, ⟨⟨v, rfl, a, us, rfl, hS, hP⟩, low⟩, q⟩ := h
    refine ⟨_, (pss_cons (ps_for PassesOwn.never (by rfl) (pi_enumT (by rfl) T.z_enumerate (pa_cons (pv 1) pa_nil)) (pg_tup (by rfl) (pgs_cons (pg_name (i := 2) sc_first_odd_cell.nd rfl (.inl rfl)) (pgs_cons (pg_name (i := 3) sc_first_odd_cell.nd rfl (.inl rfl)) pgs_nil)))
        (pss_one (ps_for PassesOwn.never (by rfl) (pi_enumT (by rfl) T.z_enumerate (pa_cons (pv 3) pa_nil)) (pg_tup (by rfl) (pgs_cons (pg_name (i := 4) sc_first_odd_cell.nd rfl (.inl rfl)) (pgs_cons (pg_name (i := 5) sc_first_odd_cell.nd rfl (.inl rfl)) pgs_nil)))
          (pss_one (ps_if (pt_not (pt_val (pe_cl c_is_below hr (by first | decide | omega) (by rfl) (pa_cons (pv 5) (pa_cons (pv 0) pa_nil)))))
            (pss_one (ps_ret (pe_tup (pa_cons (pv 2) (pa_cons (pv 4) pa_nil)))))
            pss_nil)))))
      (pss_one (ps_ret pe_non))), ?_⟩
    refine q_enumT (ea_cons (ev_var rfl) ea_nil) hS (fun i σ H' => Ex H H' ∧ ∃ y2 y3 y4 y5, σ = [some (vi n), some (.ref a), y2, y3, y4, y5]) (fun H2 e2 => ⟨e2, none, none, none, none, rfl⟩) (fun i σ H' _ ⟨e, _⟩ => ex_t e hS) (fun i x σ H2 H3 hx ⟨e, y2, y3, y4, y5, hσ⟩ e3 => ?_) (fun σ H2 ⟨e2, _, _, _, _, hσ⟩ => ?_)
    · subst hσ
      have hi : i < ts.length := by rw [← paired_len hP]; exact (List.getElem?_eq_some_iff.mp hx).1
      obtain ⟨x', ex', b, hb, hd⟩ := paired_get hP (List.getElem?_eq_getElem hi)
      have : x' = x := Option.some.inj (ex'.symm.trans hx)
      subst this
      subst hb
      have e03 : Ex H H3 := e.trans e3
      refine s_enumT (ea_cons (ev_var rfl) ea_nil) (ex_t e03 hd) (fun j σ H' => Ex H H' ∧ ∃ y4 y5, σ = [some (vi n), some (.ref a), some (vi i), some (.ref b), y4, y5]) (fun H4 e4 => ⟨e03.trans e4, _, _, rfl⟩) (fun j σ H' _ ⟨e, _⟩ => ex_t e hd) (fun j y σ H4 H5 hy ⟨e4, z4, z5, hσ⟩ e5 => ?_) (fun σ H4 ⟨e4, z4, z5, hσ⟩ => ?_)
      · subst hσ
        have hj : j < ts[i].length := by simpa using (List.getElem?_eq_some_iff.mp hy).1
        have ey : y = vi ts[i][j] := by
          rw [List.getElem?_map, List.getElem?_eq_getElem hj] at hy
          exact (Option.some.inj hy).symm
        subst ey
        have lo : ts[i][j] < n := low _ (List.getElem_mem hi) _ (List.getElem_mem hj)
        exact s_when (b := false) (et_is (et_not (et_val (ev_callV (v := .bl true) (((ts[i][j] : Nat) : Int), (n : Int)) (ea_cons (ev_var rfl) (ea_cons (ev_var rfl) ea_nil)) (fun H4 e4 => ⟨rfl, by show (0 : Int) ≤ ((ts[i][j] : Nat) : Int); omega, by show ((ts[i][j] : Nat) : Int) < (n : Int); omega⟩) (fun _ _ p => p)))) rfl) (fun hb => by cases hb) (fun _ H6 e6 => ⟨(e4.trans e5).trans e6, _, _, rfl⟩)
      · subst hσ
        exact ⟨e4, _, _, _, _, rfl⟩
    · subst hσ
      exact s_ret ev_c fun H3 e3 => q _ H3 (e2.trans e3) rfl
/-- a model of a signature, as tables of natural numbers -/
structure MdlOk (sg : List (Str × Nat)) (n : Nat) (ts : List (List Nat)) : Prop where
  n1 : 1 ≤ n
  n6 : n ≤ 6
  len : ts.length = sg.length
  tab : ∀ i (h1 : i < sg.length) (h2 : i < ts.length), Tab n sg[i].2 ts[i]
theorem MdlOk.low {sg : List (Str × Nat)} {n : Nat} {ts : List (List Nat)} (m : MdlOk sg n ts) : ∀ t ∈ ts, ∀ k ∈ t, k < n := by
  intro t ht k hk
  obtain ⟨i, hi, e⟩ := List.mem_iff_getElem.mp ht
  subst e
  have tb := m.tab i (by rw [← m.len]; exact hi) hi
  obtain ⟨j, hj, e⟩ := List.mem_iff_getElem.mp hk
  have h := tb.low j (by rw [← tb.len]; exact hj)
  have g1 := g_eq hj
  rw [List.getElem?_eq_getElem hj, e] at g1
  rw [← Option.some.inj g1] at h
  exact h
def sp_model_wrong (K : PySem.W.Frag) : Sp := spX (fun (p : List (Str × Nat) × Nat × List (List Nat)) vs H => (∃ u v, vs = [u, v] ∧ Sig K H u p.1 ∧ Mdl K H v p.2.1 p.2.2) ∧ SigOk p.1 ∧ MdlOk p.1 p.2.1 p.2.2) (fun _ v _ => v = .non)
theorem c_model_wrong (T : Txt mg) (D : Df K mg "model_wrong" s_model_wrong ["signature", "thing"]) (c_need_signature : Cl P w K mg base 5 "need_signature" (sp_need_signature K)) (c_is_size : Cl P w K mg base 2 "is_size" sp_is_size)
    (c_power : Cl P w K mg base 1 "power" sp_power) (c_first_odd_cell : Cl P w K mg base 3 "first_odd_cell" (sp_first_odd_cell K)) : Cl P w K mg base 6 "model_wrong" (sp_model_wrong K) := by
  refine cl_of (k := 5) D sc_model_wrong (fun vs H Q E h => ?_) (fun f cdv A outer s H vs Q E hr h => ?_)
  · obtain ⟨p, ⟨⟨u, v, rfl, _⟩, _⟩, _⟩ := h
    rfl
  · obtain ⟨⟨sg, n, ts⟩, ⟨⟨u, v, rfl, hG, hM⟩, sok, mok⟩, q⟩ := h
    refine ⟨_, (pss_cons (ps_expr (pe_cl c_need_signature hr (by first | decide | omega) (by rfl) (pa_cons (pv 0) pa_nil)))
      (pss_cons (ps_if (PW.pt (pw_or (pt_not (pt_val (pe_callB call_isi (by rfl) T.z_isinstance (by decide +kernel) (pa_cons (pv 1) (pa_cons (pe_ty "tuple" (by rfl) T.z_tuple (by decide +kernel)) pa_nil))))) (pw_or1 (pt_cmpR op_ne (pe_callB call_len_seq (by rfl) T.z_len PySem.boot_len (pa_cons (pv 1) pa_nil)) pe_int (nomark _)))))
        (pss_one (ps_ret (pe_tup (pa_cons pe_str pa_nil))))
        pss_nil)
      (pss_cons (ps_asg (pv 1) (pg_tup (by rfl) (pgs_cons (pg_name (i := 2) sc_model_wrong.nd rfl (.inl rfl)) (pgs_cons (pg_name (i := 3) sc_model_wrong.nd rfl (.inl rfl)) pgs_nil))))
      (pss_cons (ps_if (pt_not (pt_val (pe_cl c_is_size hr (by first | decide | omega) (by rfl) (pa_cons (pv 2) pa_nil))))
        (pss_one (ps_ret (pe_tup (pa_cons pe_str pa_nil))))
        pss_nil)
      (pss_cons (ps_if (PW.pt (pw_or (pt_not (pt_val (pe_callB call_isi (by rfl) T.z_isinstance (by decide +kernel) (pa_cons (pv 3) (pa_cons (pe_ty "tuple" (by rfl) T.z_tuple (by decide +kernel)) pa_nil))))) (pw_or1 (pt_cmpR op_ne (pe_callB call_len_seq (by rfl) T.z_len PySem.boot_len (pa_cons (pv 3) pa_nil)) (pe_callB call_len_seq (by rfl) T.z_len PySem.boot_len (pa_cons (pv 0) pa_nil)) (nomark _)))))
        (pss_one (ps_ret (pe_tup (pa_cons pe_str pa_nil))))
        pss_nil)
      (pss_cons (ps_for PassesOwn.never (by rfl) (pi_enumT (by rfl) T.z_enumerate (pa_cons (pv 0) pa_nil)) (pg_tup (by rfl) (pgs_cons (pg_name (i := 4) sc_model_wrong.nd rfl (.inl rfl)) (pgs_cons (pg_name (i := 5) sc_model_wrong.nd rfl (.inl rfl)) pgs_nil)))
        (pss_one (ps_if (PW.pt (pw_or (pt_not (pt_val (pe_callB call_isi (by rfl) T.z_isinstance (by decide +kernel) (pa_cons (pe_ix ix_tup (pv 3) (pv 4) (fun _ _ => rfl)) (pa_cons (pe_ty "tuple" (by rfl) T.z_tuple (by decide +kernel)) pa_nil))))) (pw_or1 (pt_cmpR op_ne (pe_callB call_len_seq (by rfl) T.z_len PySem.boot_len (pa_cons (pe_ix ix_tup (pv 3) (pv 4) (fun _ _ => rfl)) pa_nil)) (pe_cl c_power hr (by first | decide | omega) (by rfl) (pa_cons (pv 2) (pa_cons (pe_ix ix_tup (pv 5) pe_int (fun _ _ => rfl)) pa_nil))) (nomark _)))))
          (pss_one (ps_ret (pe_tup (pa_cons pe_str (pa_cons (pv 4) pa_nil)))))
          pss_nil)))
      (pss_cons (ps_set (i := 6) sc_model_wrong.nd rfl (.inl rfl) (pe_cl c_first_odd_cell hr (by first | decide | omega) (by rfl) (pa_cons (pv 2) (pa_cons (pv 3) pa_nil))))
      (pss_one (ps_ret (pe_ifExp (pt_cmpR op_isN (pv 6) pe_non (nomark _)) pe_non (pe_tup (pa_cons pe_str (pa_cons (pe_ix ix_tup (pv 6) pe_int (fun _ _ => rfl)) (pa_cons (pe_ix ix_tup (pv 6) pe_int (fun _ _ => rfl)) pa_nil)))))))))))))), ?_⟩
    obtain ⟨a, us, rfl, hS, hP⟩ := id hG
    obtain ⟨b, tv, rfl, hB, c, tvs, rfl, hC, hT⟩ := id hM
    have n1 := mok.n1
    have n6 := mok.n6
    have lS : us.length = sg.length := paired_len hP
    have lT : tvs.length = ts.length := paired_len hT
    have lM : ts.length = sg.length := mok.len
    refine q_drop (ev_callV (v := .non) sg (ea_cons (ev_var rfl) ea_nil) (fun H1 e1 => ⟨⟨_, rfl, hG.ex e1⟩, sok⟩) (fun _ _ p => p)) fun H1 e1 => ?_
    refine q_when (b := false) (et_is (et_or (et_not (et_val (ev_isi (ev_var rfl) ev_c (.ty _) (fun _ e => tyx_tup (ex_t (e1.trans e) hB)) kit_tt))) (fun _ => et_test (ev_op (ev_lenT (ev_var rfl) (ex_t e1 hB)) ev_c (rv_ne rfl)))) rfl) (fun hb => by cases hb) (fun _ H2 e2 => ?_)
    have e02 := e1.trans e2
    -- size, tables = thing
    refine ⟨.ref b, rfl, b, _, rfl, ex_t e02 hB, rfl, _, _, rfl, _, _, rfl, rfl, ?_⟩
    refine q_when (b := false) (et_is (et_not (et_val (ev_callV (v := .bl true) n (ea_cons (ev_var rfl) ea_nil) (fun _ _ => ⟨rfl, n1, n6⟩) (fun _ _ p => p)))) rfl) (fun hb => by cases hb) (fun _ H3 e3 => ?_)
    have e03 := e02.trans e3
    refine q_when (b := false) (et_is (et_or (et_not (et_val (ev_isi (ev_var rfl) ev_c (.ty _) (fun _ e => tyx_tup (ex_t (e03.trans e) hC)) kit_tt))) (fun _ => et_test (ev_op (ev_lenT (ev_var rfl) (ex_t e03 hC)) (ev_lenT (ev_var rfl) (ex_t e03 hS)) (rv_ne rfl)))) ?_) (fun hb => by cases hb) (fun _ H4 e4 => ?_)
    · show (!true || !decide (V.int (tvs.length : Int) = V.int (us.length : Int))) = false
      rw [lT, lS, lM, decide_eq_true rfl]
      rfl
    have e04 := e03.trans e4
    refine q_enumT (ea_cons (ev_var rfl) ea_nil) (ex_t e04 hS) (fun i σ H' => Ex H H' ∧ ∃ y4 y5, σ = [some (.ref a), some (.ref b), some (vi n), some (.ref c), y4, y5, none]) (fun H5 e5 => ⟨e04.trans e5, none, none, rfl⟩) (fun i σ H' _ ⟨e, _⟩ => ex_t e hS) (fun i x σ H5 H6 hx ⟨e, y4, y5, hσ⟩ e6 => ?_) (fun σ H5 ⟨e5, y4, y5, hσ⟩ => ?_)
    · subst hσ
      have hi : i < sg.length := by rw [← lS]; exact (List.getElem?_eq_some_iff.mp hx).1
      have hi2 : i < ts.length := by rw [lM]; exact hi
      obtain ⟨x', ex', d, hd, dd⟩ := paired_get hP (List.getElem?_eq_getElem hi)
      have : x' = x := Option.some.inj (ex'.symm.trans hx)
      subst this
      subst hd
      obtain ⟨y', ey', r, hr', rr⟩ := paired_get hT (List.getElem?_eq_getElem hi2)
      subst hr'
      have e06 : Ex H H6 := e.trans e6
      have tb := mok.tab i hi hi2
      have p2 : sg[i].2 ≤ 2 := sok.pl _ (List.getElem_mem hi)
      have tk : Ev (tOp (rIxT K) (tVar 3) (tVar 4)) [some (.ref a), some (.ref b), some (vi n), some (.ref c), some (vi i), some (.ref d), none] H6 (.ref r) := ev_op (ev_var rfl) (ev_var rfl) (rv_ixT (ex_t e06 hC) (atI_vi ey'))
      refine s_when (b := false) (et_is (et_or (et_not (et_val (ev_isi tk ev_c (.ty _) (fun _ e => tyx_tup (ex_t (e06.trans e) rr)) kit_tt))) (fun _ => et_test (ev_op (ev_lenT tk (ex_t e06 rr)) (ev_callV (v := vi (n ^ sg[i].2)) (n, sg[i].2) (ea_cons (ev_var rfl) (ea_cons (ev_op (ev_var rfl) ev_c (rv_ixT (ex_t e06 dd) (atI_vi (k := 1) rfl))) ea_nil)) (fun _ _ => ⟨rfl, n6, Nat.le_trans p2 (by decide)⟩) (fun _ _ p => p)) (rv_ne rfl)))) ?_) (fun hb => by cases hb) (fun _ H7 e7 => ⟨e06.trans e7, _, _, rfl⟩)
      show (!true || !decide (V.int (((ts[i].map vi).length : Nat) : Int) = vi (n ^ sg[i].2))) = false
      rw [List.length_map, tb.len, decide_eq_true rfl]
      rfl
    · subst hσ
      refine q_asg (ev_callV (v := .non) (n, ts) (ea_cons (ev_var rfl) (ea_cons (ev_var rfl) ea_nil)) (fun H6 e6 => ⟨⟨_, rfl, c, tvs, rfl, ex_t (e5.trans e6) hC, paired_imp (fun _ _ z => z.ex (e5.trans e6)) hT⟩, mok.low⟩) (fun _ _ p => p)) fun H6 e6 => ?_
      refine s_ret (ev_if (b := true) ?_ (fun _ => ev_c) (fun hb => by cases hb)) fun H7 e7 => q _ H7 ((e5.trans e6).trans e7) rfl
      exact fun H7 e7 Q q => ⟨_, rfl, rfl, _, rfl, q H7 (Ex.refl H7)⟩
end
end K11
end
section
namespace K11
open PySem PySem.Spec PyProof.Rows L2 Evl Dw M20
/-! ### terms -/
inductive Tm where
  | var (x : Str)
  | deed (f : Str) (ts : List Tm)
mutual
def Tm.sz : Tm → Nat
  | .var _ => 1
  | .deed _ ts => 1 + szs ts
def szs : List Tm → Nat
  | [] => 0
  | t :: ts => t.sz + szs ts
end
mutual
/-- the variables, at each place -/
def Tm.ls : Tm → List Str
  | .var x => [x]
  | .deed _ ts => lss ts
def lss : List Tm → List Str
  | [] => []
  | t :: ts => t.ls ++ lss ts
end
mutual
def TmV (K : PySem.W.Frag) (H : Hp) : Tm → V → Prop
  | .var x => fun v => ∃ a, v = .ref a ∧ SqT K H a [.str "var", .str x]
  | .deed f ts => fun v => ∃ a b vs, v = .ref a ∧ SqT K H a [.str "deed", .str f, .ref b] ∧ SqT K H b vs ∧ TmsV K H ts vs
def TmsV (K : PySem.W.Frag) (H : Hp) : List Tm → List V → Prop
  | [] => fun vs => vs = []
  | t :: ts => fun vs => ∃ v us, vs = v :: us ∧ TmV K H t v ∧ TmsV K H ts us
end
section
variable {K : PySem.W.Frag} {H H' : Hp}
mutual
theorem TmV.et (e : ET K H H') : ∀ {t : Tm} {v : V}, TmV K H t v → TmV K H' t v
  | .var x, v, h => by
    rw [TmV] at h ⊢
    obtain ⟨a, q, s⟩ := h
    exact ⟨a, q, e _ _ s⟩
  | .deed f ts, v, h => by
    rw [TmV] at h ⊢
    obtain ⟨a, b, vs, q, s, s2, r⟩ := h
    exact ⟨a, b, vs, q, e _ _ s, e _ _ s2, TmsV.et e r⟩
theorem TmsV.et (e : ET K H H') : ∀ {ts : List Tm} {vs : List V}, TmsV K H ts vs → TmsV K H' ts vs
  | [], vs, h => by
    rw [TmsV] at h ⊢
    exact h
  | t :: ts, vs, h => by
    rw [TmsV] at h ⊢
    obtain ⟨v, us, q, a, b⟩ := h
    exact ⟨v, us, q, TmV.et e a, TmsV.et e b⟩
end
theorem szs_app : ∀ (a b : List Tm), szs (a ++ b) = szs a + szs b
  | [], b => by rw [szs, Nat.zero_add]; rfl
  | t :: a, b => by rw [List.cons_append, szs, szs, szs_app a b, Nat.add_assoc]
theorem lss_app : ∀ (a b : List Tm), lss (a ++ b) = lss a ++ lss b
  | [], b => by rw [lss]; rfl
  | t :: a, b => by rw [List.cons_append, lss, lss, lss_app a b, List.append_assoc]
theorem TmsV.app : ∀ {a b : List Tm} {us vs : List V}, TmsV K H a us → TmsV K H b vs → TmsV K H (a ++ b) (us ++ vs)
  | [], b, us, vs, h, k => by
    rw [TmsV] at h
    subst h
    exact k
  | t :: a, b, us, vs, h, k => by
    rw [TmsV] at h
    obtain ⟨v, ws, q, x, y⟩ := h
    subst q
    show TmsV K H (t :: (a ++ b)) (v :: (ws ++ vs))
    rw [TmsV]
    exact ⟨v, _, rfl, x, TmsV.app y k⟩
theorem TmsV.one {t : Tm} {v : V} (h : TmV K H t v) : TmsV K H [t] [v] := by
  rw [TmsV]
  exact ⟨v, [], rfl, h, by rw [TmsV]⟩
theorem TmsV.rev : ∀ {a : List Tm} {us : List V}, TmsV K H a us → TmsV K H a.reverse us.reverse
  | [], us, h => by
    rw [TmsV] at h
    subst h
    show TmsV K H [] []
    rw [TmsV]
  | t :: a, us, h => by
    rw [TmsV] at h
    obtain ⟨v, ws, q, x, y⟩ := h
    subst q
    rw [List.reverse_cons, List.reverse_cons]
    exact (TmsV.rev y).app (TmsV.one x)
theorem TmsV.len : ∀ {a : List Tm} {us : List V}, TmsV K H a us → us.length = a.length
  | [], us, h => by
    rw [TmsV] at h
    subst h
    rfl
  | t :: a, us, h => by
    rw [TmsV] at h
    obtain ⟨v, ws, q, x, y⟩ := h
    subst q
    rw [List.length_cons, List.length_cons, y.len]
/-- the last one of them -/
theorem TmsV.last {a : List Tm} {us : List V} (h : TmsV K H a us) (ne : a ≠ []) : ∃ b t ws v, a = b ++ [t] ∧ us = ws ++ [v] ∧ TmsV K H b ws ∧ TmV K H t v := by
  have r := h.rev
  cases e : a.reverse with
  | nil => exact absurd (List.reverse_eq_nil_iff.mp e) ne
  | cons t b =>
    rw [e, TmsV] at r
    obtain ⟨v, ws, q, x, y⟩ := r
    refine ⟨b.reverse, t, ws.reverse, v, ?_, ?_, y.rev, x⟩
    · have z := congrArg List.reverse e
      rw [List.reverse_reverse, List.reverse_cons] at z
      exact z
    · have z := congrArg List.reverse q
      rw [List.reverse_reverse, List.reverse_cons] at z
      exact z
theorem szs_rev : ∀ a : List Tm, szs a.reverse = szs a
  | [] => rfl
  | t :: a => by
    rw [List.reverse_cons, szs_app, szs_rev a, szs, szs, szs]
    omega
theorem mem_lss_rev {x : Str} : ∀ a : List Tm, x ∈ lss a.reverse ↔ x ∈ lss a
  | [] => Iff.rfl
  | t :: a => by
    rw [List.reverse_cons, lss_app, List.mem_append, mem_lss_rev a, lss, lss, lss, List.append_nil, List.mem_append]
    exact Or.comm
theorem len_szs : ∀ a : List Tm, a.length ≤ szs a
  | [] => Nat.zero_le _
  | t :: a => by
    have h := len_szs a
    have p : 1 ≤ t.sz := by cases t <;> (rw [Tm.sz]; omega)
    rw [szs, List.length_cons]
    omega
end
end K11
end
section
namespace K11
open PySem PySem.Spec PyProof.Rows L2 Evl Dw M20
section
variable {K : PySem.W.Frag} {σ : L2.St} {H : Hp} {ta te : TE}
theorem do_pop {l : Addr} {xs : List V} {y : V} {Q : VK} (hl : H l = some (.lst (xs ++ [y]))) (ha : Ev ta σ H (.ref l)) (h : ∀ H1, Ex H H1 → Q y (upd H1 l (.lst xs))) : tBM0 K "list" rPop ta σ H Q := by
  refine ha H (Ex.refl H) _ fun H1 e1 => ⟨Or.inl ⟨rfl, _, sq_of (e1 l _ hl)⟩, l, _, y, rfl, rfl, e1 l _ hl, ?_, ?_⟩
  · rw [List.length_append, List.length_singleton, Nat.add_sub_cancel, List.getElem?_append_right (Nat.le_refl _), Nat.sub_self]
    rfl
  · rw [List.dropLast_concat]
    exact h H1 e1
theorem do_set {i : Nat} {te : TE} {tz : TS} {D : Ends} (h : te σ H fun x H1 => tz D (σ.set i (some x)) H1) : tSeq (tAsg te (gName i)) tz D σ H := h
theorem do_bm {T : String} {r : V → List V → Hp → VK → Prop} {x : V} {t : TA} {D : Ends} (ha : Ev ta σ H x) (h : ∀ H1, Ex H H1 → tyV K T x H1 ∧ t σ H1 fun xs H2 => r x xs H2 fun _ H3 => D.nx σ H3) : tDrop (tBM K T r ta t) D σ H := ha H (Ex.refl H) _ h
theorem et_truL {l : Addr} {xs : List V} (h : Ev te σ H (.ref l)) (hl : SqL K H l xs) : EvT (fun σ H Q => te σ H fun x H' => ∃ k, TruV K x H' k ∧ Q k H') σ H (!xs.isEmpty) := fun H1 e Q q =>
  h H1 e _ fun H2 e2 => ⟨_, .inl ⟨xs, ex_l (e.trans e2) hl, rfl⟩, q H2 e2⟩
theorem inV_str (x : Str) : ∀ ks : List Str, inV (.str x) (ks.map V.str) = decide (x ∈ ks)
  | [] => rfl
  | k :: ks => by
    have ih := inV_str x ks
    unfold inV at ih ⊢
    rw [List.map_cons, List.any_cons, ih]
    have e : eqV (V.str k) (V.str x) = decide (x = k) := by
      by_cases h : x = k
      · subst h
        simp [eqV]
      · have h2 : ¬ k = x := fun z => h z.symm
        simp [eqV, h, h2]
    rw [e]
    by_cases h : x = k <;> simp [h]
theorem flat_strs (ks : List Str) : (ks.map V.str).all flatV = true := by
  rw [List.all_eq_true]
  intro v hv
  obtain ⟨k, _, e⟩ := List.mem_map.mp hv
  rw [← e]
  rfl
end
section
variable {P : Program} {w : World} {K : PySem.W.Frag} {mg : Str → Option Value} {base : Heap}
def sp_variables_met (K : PySem.W.Frag) : Sp := spX (fun (t : Tm) vs H => (∃ v, vs = [v] ∧ TmV K H t v) ∧ t.sz ≤ 1000) (fun t v H => ∃ (p : Addr) (ks : List Str), v = .ref p ∧ H p = some (.lst (ks.map V.str)) ∧ ks.Nodup ∧ ks.length ≤ t.sz ∧ (∀ x, x ∈ ks ↔ x ∈ t.ls) ∧ ks = firsts t.ls)
theorem c_variables_met (T : Txt mg) (D : Df K mg "variables_met" s_variables_met ["term"]) : Cl P w K mg base 1 "variables_met" (sp_variables_met K) := by
  refine cl_of (k := 0) D sc_variables_met (fun vs H Q E h => ?_) (fun f cdv A outer s H vs Q E hr h => ?_)
  · obtain ⟨p, ⟨⟨v, rfl, _⟩, _⟩, _⟩ := h
    rfl
  · obtain ⟨t, ⟨⟨v, rfl, hv⟩, big⟩, q⟩ := h
    refine ⟨_, (pss_cons (ps_set (i := 1) sc_variables_met.nd rfl (.inl rfl) (pe_lst pa_nil))
      (pss_cons (ps_set (i := 2) sc_variables_met.nd rfl (.inl rfl) (pe_lst (pa_cons (pv 0) pa_nil)))
      (pss_cons (ps_while PassesOwn.never (pt_truth (pv 2) (by intro _; rfl))
        (pss_cons (ps_set (i := 3) sc_variables_met.nd rfl (.inl rfl) (pe_bm0 PySem.F.plainAttrs_list PySem.F.slot_list_pop PySem.F.type_list_pop mt_pop (pv 2)))
        (pss_one (ps_if (pt_cmpR op_eq (pe_ix ix_tup (pv 3) pe_int (fun _ _ => rfl)) pe_str (nomark _))
          (pss_one (ps_expr (pe_bm PySem.F.plainAttrs_list PySem.F.slot_list_extend PySem.F.type_list_extend mt_extT (pv 2) (pa_cons (pe_revT (pe_ix ix_tup (pv 3) pe_int (fun _ _ => rfl))) pa_nil))))
          (pss_one (ps_if (pt_cmpR op_notIn_seq (pe_ix ix_tup (pv 3) pe_int (fun _ _ => rfl)) (pv 1) (by rfl))
            (pss_one (ps_expr (pe_bm PySem.F.plainAttrs_list PySem.F.slot_list_append PySem.F.type_list_append mt_append (pv 1) (pa_cons (pe_ix ix_tup (pv 3) pe_int (fun _ _ => rfl)) pa_nil))))
            pss_nil))))))
      (pss_one (ps_ret (pv 1)))))), ?_⟩
    refine q_asgL (el_lst ea_nil (Nat.zero_le _)) fun m H1 nm e1 hm => ?_
    refine q_asgL (el_lst (ea_cons (ev_var rfl) ea_nil) (by show 1 ≤ 100000; decide)) fun td H2 ntd e2 htd => ?_
    have ntH : H td = none := fresh_back e1 ntd
    have far : m ≠ td := fun z => by
      rw [← z, hm] at ntd
      cases ntd
    have e02 : Ex H H2 := e1.trans e2
    refine q_while (fun k σ H' => Ex H H' ∧ ∃ (stk : List Tm) (us : List V) (ks : List Str) (y : Option V), k = szs stk ∧ H' td = some (.lst us) ∧ TmsV K H' stk us ∧ H' m = some (.lst (ks.map V.str)) ∧ ks.Nodup ∧ (∀ x, (x ∈ ks ∨ x ∈ lss stk) ↔ x ∈ t.ls) ∧ ks.length + szs stk ≤ t.sz ∧ (lss stk.reverse).foldl addK ks = firsts t.ls ∧ σ = [some v, some (.ref m), some (.ref td), y]) (szs [t])
      ⟨e02, [t], [v], [], none, rfl, htd, TmsV.one (hv.et (Dw.Ex.et e02)), e2 _ _ hm, List.nodup_nil, fun x => by rw [lss, lss, List.append_nil]; simp, by rw [szs, szs]; simp, by show (lss [t]).foldl addK [] = _; rw [lss, lss, List.append_nil]; rfl, rfl⟩ (fun k σ H3 hW => ?_)
    obtain ⟨e3, stk, us, ks, y, ek, hus, tms, hks, nd, mem, le, ord, hσ⟩ := hW
    subst hσ
    subst ek
    have lu := tms.len
    have ls := len_szs stk
    refine ⟨_, et_truL (K := K) (ev_var rfl) (sq_of hus), fun hb H4 e4 => ?_, fun hb H4 e4 => ?_⟩
    · have ne : stk ≠ [] := fun z => by
        subst z
        rw [TmsV] at tms
        subst tms
        cases hb
      obtain ⟨b, t', ws, v', rfl, rfl, tb, tv⟩ := tms.last ne
      rw [szs_app, szs, szs] at le
      rw [List.reverse_append, List.reverse_singleton, List.singleton_append, lss] at ord
      refine ⟨fun σ' H' => ∃ k', k' < szs (b ++ [t']) ∧ Ex H H' ∧ ∃ (stk : List Tm) (us : List V) (ks : List Str) (y : Option V), k' = szs stk ∧ H' td = some (.lst us) ∧ TmsV K H' stk us ∧ H' m = some (.lst (ks.map V.str)) ∧ ks.Nodup ∧ (∀ x, (x ∈ ks ∨ x ∈ lss stk) ↔ x ∈ t.ls) ∧ ks.length + szs stk ≤ t.sz ∧ (lss stk.reverse).foldl addK ks = firsts t.ls ∧ σ' = [some v, some (.ref m), some (.ref td), y], fun σ2 H5 ⟨k', lt, r⟩ => ⟨k', lt, r⟩, ?_⟩
      refine do_set (do_pop (e4 _ _ hus) (ev_var rfl) fun H5 e5 => ?_)
      have e35 := e4.trans e5
      have hm6 : (upd H5 td (.lst ws)) m = some (.lst (ks.map V.str)) := by rw [upd_ne far]; exact e35 _ _ hks
      have et6 : ET K H3 (upd H5 td (.lst ws)) := ET.trans (Dw.Ex.et e35) (ET.refl.upd (e35 _ _ hus))
      have x6 : Ex H (upd H5 td (.lst ws)) := (e3.trans e35).mut ntH
      have td6 : (upd H5 td (.lst ws)) td = some (.lst ws) := upd_same
      have tb6 := tb.et et6
      have tv6 := tv.et et6
      generalize upd H5 td (.lst ws) = H6 at *
      show tIfS _ _ _ _ [some v, some (.ref m), some (.ref td), some v'] H6
      cases t' with
      | var x =>
        rw [TmV] at tv6
        obtain ⟨a, rfl, ha⟩ := tv6
        refine s_if (b := false) (et_is (et_test (ev_op (ev_op (ev_var rfl) ev_c (rv_ixT (K := K) ha (atI_vi (k := 0) rfl))) ev_c (rv_eq rfl))) (by decide)) (fun hb => by cases hb) (fun _ H7 e7 => ?_)
        have e67 := x6.trans e7
        refine s_when (et_test (ev_op (ev_op (ev_var rfl) ev_c (rv_ixT (K := K) (ex_t e7 ha) (atI_vi (k := 1) rfl))) (ev_var rfl) (rv_niL (sq_of (e7 _ _ hm6)) rfl (flat_strs ks)))) (fun hb2 H8 e8 => ?_) (fun hb2 H8 e8 => ?_)
        · rw [inV_str] at hb2
          have notMem : x ∉ ks := fun z => by rw [decide_eq_true z] at hb2; cases hb2
          have e78 := e7.trans e8
          refine s_app (e78 _ _ hm6) (ev_var rfl) (ev_op (ev_var rfl) ev_c (rv_ixT (K := K) (ex_t e78 ha) (atI_vi (k := 1) rfl))) (by rw [List.length_map]; omega) fun H9 e9 => ?_
          have e69 := e78.trans e9
          have et9 : ET K H6 (upd H9 m (.lst (ks.map V.str ++ [.str x]))) := ET.trans (Dw.Ex.et e69) (ET.refl.upd (e69 _ _ hm6))
          refine ⟨szs b, by rw [szs_app, szs, Tm.sz]; omega, (x6.trans e69).mut nm, b, ws, ks ++ [x], _, rfl, by rw [upd_ne (Ne.symm far)]; exact e69 _ _ td6, tb6.et et9, by rw [upd_same, List.map_append]; rfl, (List.perm_append_singleton x ks).nodup_iff.mpr (List.nodup_cons.mpr ⟨notMem, nd⟩), fun z => ?_, by rw [List.length_append, List.length_singleton]; rw [Tm.sz] at le; omega, by rw [← ord, Tm.ls, List.singleton_append, List.foldl_cons]; unfold addK; rw [if_neg notMem], rfl⟩
          rw [← mem z, lss_app, lss, lss, Tm.ls, List.append_nil, List.mem_append, List.mem_append, or_assoc, or_comm (a := z ∈ [x])]
        · rw [inV_str] at hb2
          have isMem : x ∈ ks := by
            by_cases z : x ∈ ks
            · exact z
            · rw [decide_eq_false z] at hb2
              cases hb2
          have e68 := e7.trans e8
          refine ⟨szs b, by rw [szs_app, szs, Tm.sz]; omega, x6.trans e68, b, ws, ks, _, rfl, e68 _ _ td6, tb6.et (Dw.Ex.et e68), e68 _ _ hm6, nd, fun z => ?_, by omega, by rw [← ord, Tm.ls, List.singleton_append, List.foldl_cons]; unfold addK; rw [if_pos isMem], rfl⟩
          rw [← mem z, lss_app, lss, lss, Tm.ls, List.append_nil, List.mem_append, List.mem_singleton]
          constructor
          · rintro (a | a)
            · exact .inl a
            · exact .inr (.inl a)
          · rintro (a | a | a)
            · exact .inl a
            · exact .inr a
            · exact .inl (a ▸ isMem)
      | deed f ts =>
        rw [TmV] at tv6
        obtain ⟨a, c, vs, rfl, ha, hc, tvs⟩ := tv6
        have ent : H td = none := ntH
        refine s_if (b := true) (et_is (et_test (ev_op (ev_op (ev_var rfl) ev_c (rv_ixT (K := K) ha (atI_vi (k := 0) rfl))) ev_c (rv_eq rfl))) (by decide)) (fun _ H7 e7 => ?_) (fun hb => by cases hb)
        have big2 := len_szs ts
        have lvs := tvs.len
        have lws := tb.len
        have lb := len_szs b
        rw [Tm.sz] at le
        refine do_bm (ev_var rfl) fun H8 e8 => ⟨Or.inl ⟨rfl, _, sq_of ((e7.trans e8) _ _ td6)⟩, ?_⟩
        have e68 := e7.trans e8
        refine do_cons (ev_op (ev_var rfl) ev_c (rv_ixT (K := K) (ex_t e68 ha) (atI_vi (k := 2) rfl)) H8 (Ex.refl _) _ fun H9 e9 => ⟨c, vs, rfl, ex_t (e68.trans e9) hc, fun p o np od os => ?_⟩)
        have e6x : Ex H6 (upd H9 p (.frz o (.tup vs.reverse))) := (e68.trans e9).trans (Ex.new np)
        refine ⟨td, p, o, ws, vs.reverse, rfl, rfl, e6x _ _ td6, upd_same, od, os, sz_of (by rw [List.length_reverse]; omega), ?_⟩
        have etx : ET K H6 (upd (upd H9 p (.frz o (.tup vs.reverse))) td (.lst (ws ++ vs.reverse))) := ET.trans (Dw.Ex.et e6x) (ET.refl.upd (e6x _ _ td6))
        refine ⟨szs (b ++ ts.reverse), by rw [szs_app, szs_app, szs_rev, szs, szs, Tm.sz]; omega, (x6.trans e6x).mut ntH, b ++ ts.reverse, ws ++ vs.reverse, ks, _, rfl, upd_same, (tb6.et etx).app (tvs.et etx).rev, by rw [upd_ne far]; exact e6x _ _ hm6, nd, fun z => ?_, by rw [szs_app, szs_rev]; omega, by rw [← ord, List.reverse_append, List.reverse_reverse, lss_app, Tm.ls], rfl⟩
        rw [← mem z, lss_app, lss_app, lss, lss, Tm.ls, List.append_nil, List.mem_append, List.mem_append, mem_lss_rev]
    · have no : stk = [] := by
        cases us with
        | nil => exact List.length_eq_zero_iff.mp lu.symm
        | cons _ _ => cases hb
      subst no
      refine s_ret (ev_var rfl) fun H5 e5 => q _ H5 (e3.trans (e4.trans e5)) ⟨m, ks, rfl, (e4.trans e5) _ _ hks, nd, by rw [szs] at le; exact le, fun x => ?_, by rw [List.reverse_nil, lss] at ord; exact ord⟩
      rw [← mem x, lss]
      simp
end
end K11
end
section
namespace K11
open PySem PySem.Spec PyProof.Rows L2 Evl Dw M20
theorem TmsV.get {K : PySem.W.Frag} {H : Hp} : ∀ {ts : List Tm} {us : List V} {i : Nat} {u : V}, TmsV K H ts us → us[i]? = some u → ∃ t, ts[i]? = some t ∧ TmV K H t u
  | [], us, i, u, h, e => by
    rw [TmsV] at h
    subst h
    rw [List.getElem?_nil] at e
    cases e
  | t :: ts, us, i, u, h, e => by
    rw [TmsV] at h
    obtain ⟨v, ws, q, a, b⟩ := h
    subst q
    match i, e with
    | 0, e =>
      cases Option.some.inj (show some v = some u from e)
      exact ⟨t, rfl, a⟩
    | i + 1, e =>
      show ∃ t, ts[i]? = some t ∧ _
      exact TmsV.get b (show ws[i]? = some u from e)
theorem fold_nd : ∀ (xs ks : List Str), ks.Nodup → (xs.foldl addK ks).Nodup
  | [], ks, h => h
  | x :: xs, ks, h => by
    rw [List.foldl_cons]
    refine fold_nd xs _ ?_
    unfold addK
    split
    · exact h
    · rename_i no
      exact (List.perm_append_singleton x ks).nodup_iff.mpr (List.nodup_cons.mpr ⟨no, h⟩)
theorem firsts_nd (xs : List Str) : (firsts xs).Nodup := fold_nd xs [] List.nodup_nil
theorem lss_take {ts : List Tm} {i : Nat} {t : Tm} (h : ts[i]? = some t) : lss (ts.take (i + 1)) = lss (ts.take i) ++ t.ls := by
  rw [List.take_add_one, h, lss_app]
  show _ ++ lss [t] = _
  rw [lss, lss, List.append_nil]
theorem szs_take {ts : List Tm} {i : Nat} {t : Tm} (h : ts[i]? = some t) : szs (ts.take (i + 1)) = szs (ts.take i) + t.sz := by
  rw [List.take_add_one, h, szs_app]
  show _ + szs [t] = _
  rw [szs, szs, Nat.add_zero]
theorem szs_take_le (ts : List Tm) (i : Nat) : szs (ts.take i) ≤ szs ts := by
  have h : szs ts = szs (ts.take i) + szs (ts.drop i) := by rw [← szs_app, List.take_append_drop]
  omega
theorem sz_le {ts : List Tm} {i : Nat} {t : Tm} (h : ts[i]? = some t) : t.sz ≤ szs ts := by
  have a := szs_take h
  have b := szs_take_le ts (i + 1)
  omega
def FStrs (H : Hp) (v : V) (ls : List Str) : Prop := ∃ a o, v = .ref a ∧ H a = some (.frz o (.tup (ls.map V.str))) ∧ o.dict = none
theorem FStrs.ex {H H' : Hp} {v : V} {ls : List Str} (e : Ex H H') (h : FStrs H v ls) : FStrs H' v ls := let ⟨a, o, q, s, d⟩ := h; ⟨a, o, q, e _ _ s, d⟩
section
variable {P : Program} {w : World} {K : PySem.W.Frag} {mg : Str → Option Value} {base : Heap}
theorem pi_or {X : Cx} {tg e : Expr} {w1 w2 : TI} (h1 : PI X tg e w1) (h2 : PI X tg e w2) : PI X tg e (fun σ H R => w1 σ H R ∨ w2 σ H R) := ⟨fun pins s σ H R I h => by
  rcases h with h | h
  · exact h1.run pins s σ H R I h
  · exact h2.run pins s σ H R I h⟩
theorem q_forLT {σ : L2.St} {H H0 : Hp} {a : Addr} {xs : List V} {tl : TE} {g : TG} {tu tz : TS} {D : Ends} (h : Ev tl σ H (.ref a)) (hx : SqL K H a xs ∨ SqT K H a xs) (Pv : Nat → L2.St → Hp → Prop) (h0 : ∀ H1, Ex H H1 → Pv 0 σ H1) (hl : ∀ i σ' H', i ≤ xs.length → Pv i σ' H' → (SqL K H0 a xs → SqL K H' a xs) ∧ (SqT K H0 a xs → SqT K H' a xs)) (h00 : SqL K H0 a xs ∨ SqT K H0 a xs)
    (hs : ∀ i x σ' H', xs[i]? = some x → Pv i σ' H' → g x σ' H' fun σ2 H2 => tu { D with nx := Pv (i + 1), ct := Pv (i + 1), bk := tz D } σ2 H2) (hd : ∀ σ' H', Pv xs.length σ' H' → tz D σ' H') : tSeq (tFor (fun σ H R => iList K tl σ H R ∨ iTup K tl σ H R) g tu) tz D σ H := by
  by_cases z : SqL K H0 a xs
  · have z2 : SqL K H a xs ∨ ¬ SqL K H a xs := Classical.em _
    rcases hx with hx | hx
    · exact Or.inl (q_forL (D := D) (tz := tz) h hx Pv h0 (fun i σ' H' li p => (hl i σ' H' li p).1 z) hs hd)
    · rcases h00 with w | w
      · exact Or.inl (q_forL (D := D) (tz := tz) h ((hl 0 σ H (Nat.zero_le _) (h0 H (Ex.refl H))).1 z) Pv h0 (fun i σ' H' li p => (hl i σ' H' li p).1 z) hs hd)
      · exact Or.inr (q_forT (D := D) (tz := tz) h hx Pv h0 (fun i σ' H' li p => (hl i σ' H' li p).2 w) hs hd)
  · have w : SqT K H0 a xs := h00.resolve_left z
    exact Or.inr (q_forT (D := D) (tz := tz) h ((hl 0 σ H (Nat.zero_le _) (h0 H (Ex.refl H))).2 w) Pv h0 (fun i σ' H' li p => (hl i σ' H' li p).2 w) hs hd)
def sp_variables_of (K : PySem.W.Frag) : Sp := spX (fun (ts : List Tm) vs H => (∃ l us, vs = [.ref l] ∧ (SqL K H l us ∨ SqT K H l us) ∧ TmsV K H ts us) ∧ szs ts ≤ 63) (fun ts v H => ∃ (ys : List Str), FStrs H v ys ∧ ys.Nodup ∧ sortedS ys = true ∧ ∀ x, x ∈ ys ↔ x ∈ lss ts)
theorem c_variables_of (T : Txt mg) (D : Df K mg "variables_of" s_variables_of ["terms"]) (c_variables_met : Cl P w K mg base 1 "variables_met" (sp_variables_met K)) : Cl P w K mg base 2 "variables_of" (sp_variables_of K) := by
  refine cl_of (k := 1) D sc_variables_of (fun vs H Q E h => ?_) (fun f cdv A outer s H vs Q E hr h => ?_)
  · obtain ⟨p, ⟨⟨l, us, rfl, _⟩, _⟩, _⟩ := h
    rfl
  · obtain ⟨ts, ⟨⟨l, us, rfl, hl, tms⟩, big⟩, q⟩ := h
    refine ⟨_, (pss_cons (ps_set (i := 1) sc_variables_of.nd rfl (.inl rfl) (pe_lst pa_nil))
      (pss_cons (ps_for PassesOwn.never (by rfl) (pi_or (pi_list (pv 0)) (pi_tup (pv 0))) (pg_name (i := 2) sc_variables_of.nd rfl (.inl rfl))
        (pss_one (ps_expr (pe_bm PySem.F.plainAttrs_list PySem.F.slot_list_extend PySem.F.type_list_extend mt_extend (pv 1) (pa_cons (pe_cl c_variables_met hr (by first | decide | omega) (by rfl) (pa_cons (pv 2) pa_nil)) pa_nil)))))
      (pss_one (ps_ret (pe_callTy call_tupF (by rfl) T.z_tuple (by decide +kernel) (pa_cons (pe_callB (cr_sortX rfl) (by rfl) T.z_sorted (by decide +kernel) (pa_cons (pe_callTy (cr_setX rfl) (by rfl) T.z_set (by decide +kernel) (pa_cons (pv 1) pa_nil)) pa_nil)) pa_nil)))))), ?_⟩
    have lu := tms.len
    refine q_asgL (el_lst ea_nil (Nat.zero_le _)) fun m H1 nm e1 hm => ?_
    refine q_forLT (K := K) (ev_var rfl) (hl.imp (ex_l e1) (ex_t e1)) (fun i σ H' => Ex H H' ∧ ∃ (ks : List Str) (y : Option V), H' m = some (.lst (ks.map V.str)) ∧ ks.length ≤ szs (ts.take i) ∧ (∀ x, x ∈ ks ↔ x ∈ lss (ts.take i)) ∧ σ = [some (.ref l), some (.ref m), y])
      (fun H2 e2 => ⟨e1.trans e2, [], none, e2 _ _ hm, by rw [List.take_zero, szs]; exact Nat.le_refl _, fun x => by rw [List.take_zero, lss], rfl⟩) (fun i σ H' _ ⟨e, _⟩ => ⟨ex_l e, ex_t e⟩) hl (fun i x σ H2 hx hP => ?_) (fun σ H2 hP => ?_)
    · obtain ⟨e2, ks, y, hks, lk, mem, hσ⟩ := hP
      subst hσ
      obtain ⟨t, ht, tv⟩ := tms.get hx
      have le := sz_le ht
      have st := szs_take ht
      have tl := szs_take_le ts (i + 1)
      show tDrop _ _ [some (.ref l), some (.ref m), some x] H2
      refine do_bm (ev_var rfl) fun H3 e3 => ⟨Or.inl ⟨rfl, _, sq_of (e3 _ _ hks)⟩, do_cons ?_⟩
      refine ep_call t (ea_cons (ev_var rfl) ea_nil) (fun H4 e4 => ⟨⟨_, rfl, tv.et (Dw.Ex.et ((e2.trans e3).trans e4))⟩, by omega⟩) H3 (Ex.refl _) _ fun v H4 e4 hv => ?_
      obtain ⟨b, zs, rfl, hb, nd, lz, mz, _⟩ := hv
      have e34 := e3.trans e4
      refine ⟨m, b, ks.map V.str, zs.map V.str, rfl, rfl, e34 _ _ hks, hb, sz_of (by rw [List.length_map, List.length_map]; omega), ?_⟩
      refine ⟨(e2.trans e34).mut nm, ks ++ zs, _, by rw [upd_same, List.map_append], by rw [List.length_append]; omega, fun z => ?_, rfl⟩
      rw [List.mem_append, mem z, mz z, lss_take ht, List.mem_append]
    · obtain ⟨e2, ks, y, hks, lk, mem, hσ⟩ := hP
      subst hσ
      rw [lu, List.take_length] at lk mem
      have lf := firsts_len ks
      refine do_ret (do_cb (do_cons (do_cb (do_cons (do_cb (do_cons (do_ev (ev_var rfl) fun H3 e3 => ?_)))))))
      refine ⟨m, ks, rfl, sq_of (e3 _ _ hks), by omega, fun p np => ?_⟩
      refine ⟨p, _, rfl, upd_same, by omega, fun ys p2 perm so np2 => ?_⟩
      refine ⟨p2, _, rfl, sq_of upd_same, fun r o nr od => ?_⟩
      have e3r := ((e3.trans (Ex.new np)).trans (Ex.new np2)).trans (Ex.new (o := .frz o (.tup (ys.map V.str))) nr)
      refine q _ _ (e2.trans e3r) ⟨ys, ⟨r, o, rfl, upd_same, od⟩, perm.nodup_iff.mpr (firsts_nd ks), so, fun x => ?_⟩
      rw [perm.mem_iff, mem_firsts, mem x]
end
end K11
end
section
namespace K11
open PySem PySem.Spec PyProof.Rows L2 Evl Dw M20
def vars : List Str := ["u", "v", "w", "x", "y", "z"]
structure Vars (K : PySem.W.Frag) (mg : Str → Option Value) (va : Addr) : Prop where
  at_ : mg "VARIABLES" = some (.ref va)
  sq : ∀ H, SqT K H va (vars.map V.str)
theorem pe_gv {X : Cx} {x : Str} {pos : Pos} {a : Addr} (hg : Gl X x) (h : X.mg x = some (.ref a)) (hn : x ≠ "__name__" := by decide) (hd : (x == ("__debug__" : Str)) = false := by decide) : PE X (.Name x pos) (tC (.ref a)) := pe_glob hg h rfl (hd := hd)
section
variable {σ : L2.St} {H : Hp} {ta tb : TE}
theorem do_par {i j : Nat} {t : TA} {tz : TS} {D : Ends} (h : t σ H fun vs H1 => ∃ x y, vs = [x, y] ∧ tz D ((σ.set i (some x)).set j (some y)) H1) : tSeq (tPar i j t) tz D σ H := h
theorem ev_din {d : Addr} {kvs : List (Key × V)} {x : Str} {b : Bool} (ha : Ev ta σ H (.str x)) (hb : Ev tb σ H (.ref d)) (hd : H d = some (.dK kvs)) (hv : (valV kvs (.inr x)).isSome = b) : Ev (tDIn ta tb) σ H (.bl b) := fun H1 e Q q =>
  ha H1 e _ fun H2 e2 => hb H2 (e.trans e2) _ fun H3 e3 => ⟨d, valV kvs (.inr x), rfl, DGet.k (k := .inr x) (((e.trans e2).trans e3) _ _ hd), by rw [hv]; exact q H3 (e2.trans e3)⟩
theorem ev_dget {d : Addr} {kvs : List (Key × V)} {x : Str} {v : V} (ha : Ev ta σ H (.ref d)) (hb : Ev tb σ H (.str x)) (hd : H d = some (.dK kvs)) (hv : valV kvs (.inr x) = some v) : Ev (tDGet ta tb) σ H v := fun H1 e Q q =>
  ha H1 e _ fun H2 e2 => hb H2 (e.trans e2) _ fun H3 e3 => ⟨d, v, rfl, hv ▸ DGet.k (k := .inr x) (((e.trans e2).trans e3) _ _ hd), q H3 (e2.trans e3)⟩
end
/-- the dict of a signature's deeds -/
def Plc (H : Hp) (d : Addr) (sg : List (Str × Nat)) : Prop := ∃ kvs : List (Key × V), H d = some (.dK kvs) ∧ ∀ p ∈ sg, valV kvs (.inr p.1) = some (vi p.2)
mutual
/-- a term's own form, all through -/
def Tm.ok (sg : List (Str × Nat)) : Tm → Prop
  | .var x => x ∈ vars
  | .deed f ts => (f, ts.length) ∈ sg ∧ oks sg ts
def oks (sg : List (Str × Nat)) : List Tm → Prop
  | [] => True
  | t :: ts => t.ok sg ∧ oks sg ts
end
section
variable {P : Program} {w : World} {K : PySem.W.Frag} {mg : Str → Option Value} {base : Heap} {va : Addr}
def sp_has_term_form (K : PySem.W.Frag) : Sp := spX (fun (p : List (Str × Nat) × Tm) vs H => (∃ d v, vs = [.ref d, v] ∧ Plc H d p.1 ∧ TmV K H p.2 v) ∧ p.2.ok p.1) (fun _ v _ => v = .bl true)
theorem c_has_term_form (T : Txt mg) (V0 : Vars K mg va) (D : Df K mg "has_term_form" s_has_term_form ["places", "thing"]) : Cl P w K mg base 1 "has_term_form" (sp_has_term_form K) := by
  refine cl_of (k := 0) D sc_has_term_form (fun vs H Q E h => ?_) (fun f cdv A outer s H vs Q E hr h => ?_)
  · obtain ⟨p, ⟨⟨d, v, rfl, _⟩, _⟩, _⟩ := h
    rfl
  · obtain ⟨⟨sg, t⟩, ⟨⟨d, v, rfl, ⟨kvs, hd, val⟩, tv⟩, ok⟩, q⟩ := h
    refine ⟨_, (pss_cons (ps_if (pt_not (pt_val (pe_callB call_isi (by rfl) T.z_isinstance (by decide +kernel) (pa_cons (pv 1) (pa_cons (pe_ty "tuple" (by rfl) T.z_tuple (by decide +kernel)) pa_nil)))))
        (pss_one (ps_ret pe_bl))
        pss_nil)
      (pss_cons (ps_if (pt_cmpR op_eq (pe_callB call_len_seq (by rfl) T.z_len PySem.boot_len (pa_cons (pv 1) pa_nil)) pe_int (nomark _))
        (pss_one (ps_ret (pe_and (pe_cmpR op_eq (pe_ix ix_tup (pv 1) pe_int (fun _ _ => rfl)) pe_str (nomark _)) (pe_one (pe_cmpR op_in_seq (pe_ix ix_tup (pv 1) pe_int (fun _ _ => rfl)) (pe_gv (by rfl) V0.at_) (by rfl))))))
        pss_nil)
      (pss_cons (ps_if (PW.pt (pw_or (pt_cmpR op_ne (pe_callB call_len_seq (by rfl) T.z_len PySem.boot_len (pa_cons (pv 1) pa_nil)) pe_int (nomark _)) (pw_or1 (pt_cmpR op_ne (pe_ix ix_tup (pv 1) pe_int (fun _ _ => rfl)) pe_str (nomark _)))))
        (pss_one (ps_ret pe_bl))
        pss_nil)
      (pss_cons (ps_par (i := 2) (j := 3) (by rfl) sc_has_term_form.nd rfl rfl (by decide) rfl rfl (pa_cons (pe_ix ix_tup (pv 1) pe_int (fun _ _ => rfl)) (pa_cons (pe_ix ix_tup (pv 1) pe_int (fun _ _ => rfl)) pa_nil)) (by rfl))
      (pss_one (ps_ret (pe_and (pe_callB call_isi (by rfl) T.z_isinstance (by decide +kernel) (pa_cons (pv 2) (pa_cons (pe_ty "str" (by rfl) T.z_str (by decide +kernel)) pa_nil))) (pe_and (pe_cmp (pc_din (hu_of hr) (pv 2) (pv 0))) (pe_and (pe_callB call_isi (by rfl) T.z_isinstance (by decide +kernel) (pa_cons (pv 3) (pa_cons (pe_ty "tuple" (by rfl) T.z_tuple (by decide +kernel)) pa_nil))) (pe_one (pe_cmpR op_eq (pe_callB call_len_seq (by rfl) T.z_len PySem.boot_len (pa_cons (pv 3) pa_nil)) (pe_dget (hu_of hr) (pv 0) (pv 2) (fun _ _ => rfl)) (nomark _)))))))))))), ?_⟩
    replace tv : TmV K H t v := tv
    replace ok : t.ok sg := ok
    replace val : ∀ p ∈ sg, valV kvs (.inr p.1) = some (vi p.2) := val
    cases t with
    | var x =>
      rw [TmV] at tv
      rw [Tm.ok] at ok
      obtain ⟨a, rfl, ha⟩ := tv
      refine q_when (b := false) (et_is (et_not (et_val (ev_isi (ev_var rfl) ev_c (.ty _) (fun _ e => tyx_tup (ex_t e ha)) kit_tt))) rfl) (fun hb => by cases hb) (fun _ H1 e1 => ?_)
      refine q_when (b := true) (et_is (et_test (ev_op (ev_lenT (ev_var rfl) (ex_t e1 ha)) ev_c (rv_eq rfl))) rfl) (fun _ H2 e2 => ?_) (fun hb => by cases hb)
      have e02 := e1.trans e2
      refine s_ret (v := .bl true) (ev_is (ev_andV (ev_op (ev_op (ev_var rfl) ev_c (rv_ixT (K := K) (ex_t e02 ha) (atI_vi (k := 0) rfl))) ev_c (rv_eq rfl)) (fun _ => ev_op (ev_op (ev_var rfl) ev_c (rv_ixT (K := K) (ex_t e02 ha) (atI_vi (k := 1) rfl))) ev_c (rv_isT (V0.sq _) rfl (flat_strs vars)))) (by rw [inV_str, decide_eq_true ok]; rfl)) fun H3 e3 => q _ H3 (e02.trans e3) rfl
    | deed f ts =>
      rw [TmV] at tv
      rw [Tm.ok] at ok
      obtain ⟨a, b, us, rfl, ha, hb, tms⟩ := tv
      obtain ⟨mem, _⟩ := ok
      have lu := tms.len
      have vf := val _ mem
      refine q_when (b := false) (et_is (et_not (et_val (ev_isi (ev_var rfl) ev_c (.ty _) (fun _ e => tyx_tup (ex_t e ha)) kit_tt))) rfl) (fun hb => by cases hb) (fun _ H1 e1 => ?_)
      refine q_when (b := false) (et_is (et_test (ev_op (ev_lenT (ev_var rfl) (ex_t e1 ha)) ev_c (rv_eq rfl))) rfl) (fun hb => by cases hb) (fun _ H2 e2 => ?_)
      have e02 := e1.trans e2
      refine q_when (b := false) (et_is (et_or (a := false) (b := false) (et_is (et_test (ev_op (ev_lenT (ev_var rfl) (ex_t e02 ha)) ev_c (rv_ne rfl))) rfl) (fun _ => et_is (et_test (ev_op (ev_op (ev_var rfl) ev_c (rv_ixT (K := K) (ex_t e02 ha) (atI_vi (k := 0) rfl))) ev_c (rv_ne rfl))) (by decide))) rfl) (fun hb => by cases hb) (fun _ H3 e3 => ?_)
      have e03 := e02.trans e3
      have two : EvA (tCons (tOp (rIxT K) (tVar 1) (tC (.int 1))) (tCons (tOp (rIxT K) (tVar 1) (tC (.int 2))) tNil)) [some (.ref d), some (.ref a), none, none] H3 [.str f, .ref b] := ea_cons (ev_op (ev_var rfl) ev_c (rv_ixT (K := K) (ex_t e03 ha) (atI_vi (k := 1) rfl))) (ea_cons (ev_op (ev_var rfl) ev_c (rv_ixT (K := K) (ex_t e03 ha) (atI_vi (k := 2) rfl))) ea_nil)
      refine do_par (two H3 (Ex.refl _) _ fun H4 e4 => ⟨_, _, rfl, ?_⟩)
      have e04 := e03.trans e4
      show tRet _ _ [some (.ref d), some (.ref a), some (.str f), some (.ref b)] H4
      refine s_ret (v := .bl true) (ev_is (ev_andV (a := true) (ev_isi (ev_var rfl) ev_c (.ty _) (fun _ _ => tyx_str f) kit_ss) (fun _ => ev_andV (a := true) (ev_din (ev_var rfl) (ev_var rfl) (e04 _ _ hd) (by rw [vf]; rfl)) (fun _ => ev_andV (a := true) (ev_isi (ev_var rfl) ev_c (.ty _) (fun _ e => tyx_tup (ex_t (e04.trans e) hb)) kit_tt) (fun _ => ev_op (ev_lenT (ev_var rfl) (ex_t e04 hb)) (ev_dget (ev_var rfl) (ev_var rfl) (e04 _ _ hd) vf) (rv_eq rfl))))) ?_) fun H5 e5 => q _ H5 (e04.trans e5) rfl
      rw [lu]
      simp
end
end K11
end
section
namespace K11
open PySem PySem.Spec PyProof.Rows L2 Evl Dw M20
/-- a signature, its tuple told with its own object -/
def FSig (K : PySem.W.Frag) (H : Hp) (v : V) (sg : List (Str × Nat)) : Prop := ∃ (a : Addr) (o : Obj) (ps : List Addr), v = .ref a ∧ H a = some (.frz o (.tup (ps.map V.ref))) ∧ o.dict = none ∧ Paired (fun p d => SqT K H p [.str d.1, vi d.2]) ps sg
theorem FSig.ex {K : PySem.W.Frag} {H H' : Hp} {v : V} {sg : List (Str × Nat)} (e : Ex H H') (h : FSig K H v sg) : FSig K H' v sg := let ⟨a, o, ps, q, s, d, p⟩ := h; ⟨a, o, ps, q, e _ _ s, d, paired_imp (fun _ _ z => ex_t e z) p⟩
theorem paired_map {α β γ : Type} {R : α → γ → Prop} {S : β → γ → Prop} {f : α → β} (h : ∀ a c, R a c → S (f a) c) : ∀ {xs : List α} {ys : List γ}, Paired R xs ys → Paired S (xs.map f) ys
  | [], [], .nil => .nil
  | _ :: _, _ :: _, .cons r t => .cons (h _ _ r) (paired_map h t)
theorem FSig.sig {K : PySem.W.Frag} {H : Hp} {v : V} {sg : List (Str × Nat)} (h : FSig K H v sg) : Sig K H v sg := let ⟨a, o, ps, q, s, _, p⟩ := h; ⟨a, _, q, .inl (.inr ⟨o, s⟩), paired_map (f := V.ref) (fun _ _ z => ⟨_, rfl, z⟩) p⟩
/-! the dict of a signature whose names are unlike -/
def kvsOf (sg : List (Str × Nat)) : List (Key × V) := sg.map fun d => (.inr d.1, vi d.2)
theorem val_put (acc : List (Key × V)) (k j : Key) (v : V) : valV (putK acc k v) j = if j = k then some v else valV acc j := by
  unfold putK
  by_cases h : (acc.any fun kv => decide (kv.1 = k)) = true
  · rw [if_pos h, valV_map]
    rw [valV_any] at h
    by_cases e : j = k
    · subst e
      rw [if_pos rfl]
      obtain ⟨y, hy⟩ := Option.isSome_iff_exists.mp h
      rw [hy]
      simp
    · rw [if_neg e]
      cases valV acc j <;> simp [e]
  · rw [if_neg h]
    refine valV_snoc k j v acc ?_
    rw [valV_any] at h
    cases q : valV acc k with
    | none => rfl
    | some y =>
      rw [q] at h
      exact absurd rfl h
theorem val_merge : ∀ (sg : List (Str × Nat)) (acc : List (Key × V)) (x : Str) (n : Nat), (sg.map (·.1)).Nodup → ((x, n) ∈ sg ∨ (x ∉ sg.map (·.1) ∧ valV acc (.inr x) = some (vi n))) → valV (mergeK acc (kvsOf sg)) (.inr x) = some (vi n)
  | [], acc, x, n, _, h => by
    rcases h with h | h
    · cases h
    · exact h.2
  | d :: sg, acc, x, n, nd, h => by
    rw [List.map_cons, List.nodup_cons] at nd
    show valV (mergeK (putK acc (.inr d.1) (vi d.2)) (kvsOf sg)) (.inr x) = some (vi n)
    refine val_merge sg _ x n nd.2 ?_
    rcases h with h | h
    · rcases List.mem_cons.mp h with e | e
      · subst e
        refine .inr ⟨nd.1, ?_⟩
        rw [val_put, if_pos rfl]
      · exact .inl e
    · rw [List.map_cons, List.mem_cons, not_or] at h
      refine .inr ⟨h.1.2, ?_⟩
      rw [val_put, if_neg (fun z => h.1.1 (Sum.inr.inj z))]
      exact h.2
theorem paired_mapR {α β γ : Type} {R : α → β → Prop} {S : α → γ → Prop} {f : β → γ} (h : ∀ a b, R a b → S a (f b)) : ∀ {xs : List α} {ys : List β}, Paired R xs ys → Paired S xs (ys.map f)
  | [], [], .nil => .nil
  | _ :: _, _ :: _, .cons r t => .cons (h _ _ r) (paired_mapR h t)
section
variable {σ : L2.St} {H : Hp}
theorem do_setG {te : TE} {g : TG} {tz : TS} {D : Ends} (h : te σ H fun x H1 => g x σ H1 fun σ2 H2 => tz D σ2 H2) : tSeq (tAsg te g) tz D σ H := h
theorem do_app {K : PySem.W.Frag} {ta te : TE} {l : Addr} {xs : List V} {D : Ends} (hl : H l = some (.lst xs)) (ha : Ev ta σ H (.ref l))
    (h : ∀ H1, Ex H H1 → te σ H1 fun v H2 => ∃ a ys y, V.ref l = .ref a ∧ [v] = [y] ∧ H2 a = some (.lst ys) ∧ ys.length < sizeLine ∧ D.nx σ (upd H2 a (.lst (ys ++ [y])))) : tDrop (tBM K "list" rAppend ta (tCons te tNil)) D σ H :=
  ha H (Ex.refl H) _ fun H1 e1 => ⟨Or.inl ⟨rfl, xs, sq_of (e1 l _ hl)⟩, h H1 e1⟩
/-- for j in reversed(range(n)) -/
theorem s_forRev {te : TE} {tu : TS} {D : Ends} {j n : Nat} (h : Ev te σ H (vi n)) (hn : n ≤ 1000) (Pv : Nat → L2.St → Hp → Prop) (h0 : ∀ H1, Ex H H1 → Pv 0 σ H1)
    (hs : ∀ i σ' H', i < n → Pv i σ' H' → tu { D with nx := Pv (i + 1), ct := Pv (i + 1), bk := D.nx } (σ'.set j (some (vi (n - 1 - i)))) H') (hd : ∀ σ' H', Pv n σ' H' → D.nx σ' H') : tFor (iRevR (tRg1 te)) (gName j) tu D σ H := by
  refine h H (Ex.refl H) _ fun H1 e => ⟨(n : Int), rfl, by omega, by omega, by omega, by omega, ?_⟩
  have z : ((n : Int) - 0).toNat = n := by omega
  rw [z]
  refine for_it (walk_rangeC (lo := (0 : Int) + (n : Int) - 1) (c := -1) (n := n)) Pv (h0 H1 e) (fun _ _ _ _ _ => trivial) (fun i x σ' H2 H3 hi p y => ?_) hd
  obtain ⟨e1, e2⟩ := y
  subst e1
  have e3 : x = vi (n - 1 - i) := by
    rw [e2]
    show V.int _ = V.int (((n - 1 - i : Nat)) : Int)
    congr 1
    omega
  subst e3
  exact hs i σ' H3 hi p
end
/-- something on the stack of term_wrong: a path and a term -/
def PrV (K : PySem.W.Frag) (H : Hp) (sg : List (Str × Nat)) (n : Nat) (u : V) (t : Tm) : Prop := ∃ (a pa : Addr) (v : V) (xs : List V), u = .ref a ∧ SqT K H a [.ref pa, v] ∧ SqT K H pa xs ∧ xs.length + t.sz ≤ n ∧ TmV K H t v ∧ t.ok sg
theorem PrV.et {K : PySem.W.Frag} {H H' : Hp} {sg : List (Str × Nat)} {n : Nat} {u : V} {t : Tm} (e : ET K H H') (h : PrV K H sg n u t) : PrV K H' sg n u t := let ⟨a, pa, v, xs, q, s, p, l, tv, ok⟩ := h; ⟨a, pa, v, xs, q, e _ _ s, e _ _ p, l, tv.et e, ok⟩
theorem paired_last {α β : Type} {R : α → β → Prop} : ∀ {xs : List α} {ys : List β}, Paired R xs ys → ys ≠ [] → ∃ as a bs b, xs = as ++ [a] ∧ ys = bs ++ [b] ∧ Paired R as bs ∧ R a b
  | [], [], .nil, h => absurd rfl h
  | [x], [y], .cons r .nil, _ => ⟨[], x, [], y, rfl, rfl, .nil, r⟩
  | x :: x2 :: xs, y :: y2 :: ys, .cons r t, _ => by
    obtain ⟨as, a, bs, b, e1, e2, p, q⟩ := paired_last t (by simp)
    exact ⟨x :: as, a, y :: bs, b, by rw [e1]; rfl, by rw [e2]; rfl, .cons r p, q⟩
theorem oks_get {sg : List (Str × Nat)} : ∀ {ts : List Tm} {i : Nat} {t : Tm}, oks sg ts → ts[i]? = some t → t.ok sg
  | [], i, t, _, e => by
    rw [List.getElem?_nil] at e
    cases e
  | s :: ts, i, t, h, e => by
    rw [oks] at h
    match i, e with
    | 0, e =>
      cases Option.some.inj (show some s = some t from e)
      exact h.1
    | i + 1, e => exact oks_get h.2 (show ts[i]? = some t from e)
theorem TmsV.put {K : PySem.W.Frag} {H : Hp} {ts : List Tm} {us : List V} {i : Nat} (h : TmsV K H ts us) (hi : i < ts.length) : ∃ u, us[i]? = some u ∧ TmV K H ts[i] u := by
  have lu := h.len
  have e : us[i]? = some us[i] := List.getElem?_eq_getElem (by omega)
  obtain ⟨t, ht, tv⟩ := h.get e
  rw [List.getElem?_eq_getElem hi] at ht
  cases Option.some.inj ht
  exact ⟨_, e, tv⟩
section
variable {P : Program} {w : World} {K : PySem.W.Frag} {mg : Str → Option Value} {base : Heap}
def sp_wrong_in_term (K : PySem.W.Frag) : Sp := spX (fun (p : List (Str × Nat) × Tm) vs H => (∃ d v, vs = [.ref d, v] ∧ Plc H d p.1 ∧ TmV K H p.2 v) ∧ p.2.ok p.1 ∧ p.2.sz ≤ 60) (fun _ v _ => v = .non)
theorem c_wrong_in_term (T : Txt mg) (D : Df K mg "wrong_in_term" s_wrong_in_term ["places", "thing"]) (c_has_term_form : Cl P w K mg base 1 "has_term_form" (sp_has_term_form K)) : Cl P w K mg base 2 "wrong_in_term" (sp_wrong_in_term K) := by
  refine cl_of (k := 1) D sc_wrong_in_term (fun vs H Q E h => ?_) (fun f cdv A outer s H vs Q E hr h => ?_)
  · obtain ⟨p, ⟨⟨u, v, rfl, _⟩, _⟩, _⟩ := h
    rfl
  · obtain ⟨⟨sg, t⟩, ⟨⟨d, v, rfl, plc, tv⟩, ok, small⟩, q⟩ := h
    refine ⟨_, (pss_cons (ps_set (i := 2) sc_wrong_in_term.nd rfl (.inl rfl) pe_int)
      (pss_cons (ps_set (i := 3) sc_wrong_in_term.nd rfl (.inl rfl) (pe_lst (pa_cons (pe_tup (pa_cons (pe_tup pa_nil) (pa_cons (pv 1) pa_nil))) pa_nil)))
      (pss_cons (ps_while PassesOwn.never (pt_truth (pv 3) (by intro _; rfl))
        (pss_cons (ps_asg (pe_bm0 PySem.F.plainAttrs_list PySem.F.slot_list_pop PySem.F.type_list_pop mt_pop (pv 3)) (pg_tup (by rfl) (pgs_cons (pg_name (i := 4) sc_wrong_in_term.nd rfl (.inl rfl)) (pgs_cons (pg_name (i := 5) sc_wrong_in_term.nd rfl (.inl rfl)) pgs_nil))))
        (pss_cons (ps_if (pt_not (pt_val (pe_cl c_has_term_form hr (by first | decide | omega) (by rfl) (pa_cons (pv 0) (pa_cons (pv 5) pa_nil)))))
          (pss_one (ps_ret (pe_tup (pa_cons pe_str (pa_cons (pv 4) pa_nil)))))
          pss_nil)
        (pss_cons (ps_aug (i := 2) sc_wrong_in_term.nd rfl (.inl rfl) pe_int ip_add)
        (pss_one (ps_if (pt_cmpR op_eq (pe_ix ix_tup (pv 5) pe_int (fun _ _ => rfl)) pe_str (nomark _))
          (pss_one (ps_for PassesOwn.never (by rfl) (pi_revR (by rfl) T.z_reversed (prg_1 (by rfl) T.z_range (pe_callB call_len_seq (by rfl) T.z_len PySem.boot_len (pa_cons (pe_ix ix_tup (pv 5) pe_int (fun _ _ => rfl)) pa_nil)))) (pg_name (i := 6) sc_wrong_in_term.nd rfl (.inl rfl))
            (pss_one (ps_expr (pe_bm PySem.F.plainAttrs_list PySem.F.slot_list_append PySem.F.type_list_append mt_append (pv 3) (pa_cons (pe_tup (pa_cons (pe_op op_catA (pv 4) (pe_tup (pa_cons (pv 6) pa_nil))) (pa_cons (pe_ix ix_tup (pe_ix ix_tup (pv 5) pe_int (fun _ _ => rfl)) (pv 6) (fun _ _ => rfl)) pa_nil))) pa_nil))))))
          pss_nil))))))
      (pss_one (ps_ret (pe_ifExp (pt_cmpR op_gt (pv 2) (pe_gi (by rfl) T.c_MOST_PARTS) (nomark _)) (pe_tup (pa_cons pe_str pa_nil)) pe_non)))))), ?_⟩
    replace plc : Plc H d sg := plc
    replace tv : TmV K H t v := tv
    replace ok : t.ok sg := ok
    replace small : t.sz ≤ 60 := small
    have x3 : Ex H H := Ex.refl H
    refine q_asg (v := vi 0) ev_c fun H4 e4 => ?_
    refine do_set (do_lst (do_cons (do_tup (do_cons (do_tup (do_nil ⟨Nat.zero_le _, fun p1 n1 => do_cons (do_ev (ev_var rfl) fun H5 e5 => do_nil ⟨by show 2 ≤ sizeLine; decide, fun p2 n2 => do_nil ⟨by show 1 ≤ sizeLine; decide, fun td ntd => ?_⟩⟩)⟩))))))
    have e45 : Ex H4 H5 := (Ex.new n1).trans e5
    have x6 : Ex H (upd H5 p2 (.tup [.ref p1, v])) := (e4.trans e45).trans (Ex.new n2)
    have s2 : SqT K (upd H5 p2 (.tup [.ref p1, v])) p2 [.ref p1, v] := st_of upd_same
    have s1 : SqT K (upd H5 p2 (.tup [.ref p1, v])) p1 [] := st_of (Ex.new n2 _ _ (e5 _ _ upd_same))
    generalize upd H5 p2 (.tup [.ref p1, v]) = H6 at *
    have nt3 : H td = none := fresh_back x6 ntd
    have tv6 : TmV K H6 t v := tv.et (Dw.Ex.et (x3.trans x6))
    have et7 : ET K H6 (upd H6 td (.lst [.ref p2])) := Dw.Ex.et (Ex.new ntd)
    show tSeq _ _ _ [some (.ref d), some v, some (vi 0), some (.ref td), none, none, none] (upd H6 td (.lst [.ref p2]))
    refine q_while (fun k σ H' => Ex H H' ∧ ∃ (stk : List Tm) (us : List V) (n : Nat) (y5 y6 y7 : Option V), k = szs stk ∧ H' td = some (.lst us) ∧ Paired (PrV K H' sg t.sz) us stk ∧ n + szs stk = t.sz ∧ σ = [some (.ref d), some v, some (vi n), some (.ref td), y5, y6, y7]) (szs [t])
      ⟨x6.trans (Ex.new ntd), [t], [.ref p2], 0, none, none, none, rfl, upd_same, .cons (PrV.et et7 ⟨p2, p1, v, [], rfl, s2, s1, by rw [List.length_nil]; omega, tv6, ok⟩) .nil, by rw [szs, szs]; omega, rfl⟩ (fun k σ H7 hW => ?_)
    obtain ⟨e7, stk, us, n, y5, y6, y7, ek, hus, prs, tot, hσ⟩ := hW
    subst hσ
    subst ek
    have lu := paired_len prs
    have ls := len_szs stk
    refine ⟨_, et_truL (K := K) (ev_var rfl) (sq_of hus), fun hb H8 e8 => ?_, fun hb H8 e8 => ?_⟩
    · have ne : stk ≠ [] := fun z => by
        subst z
        cases prs
        cases hb
      obtain ⟨ws, u', b, t', rfl, rfl, pb, pt⟩ := paired_last prs ne
      rw [szs_app, szs, szs] at tot
      refine ⟨fun σ' H' => ∃ k', k' < szs (b ++ [t']) ∧ Ex H H' ∧ ∃ (stk : List Tm) (us : List V) (n : Nat) (y5 y6 y7 : Option V), k' = szs stk ∧ H' td = some (.lst us) ∧ Paired (PrV K H' sg t.sz) us stk ∧ n + szs stk = t.sz ∧ σ' = [some (.ref d), some v, some (vi n), some (.ref td), y5, y6, y7], fun σ2 H5 ⟨k', lt, r⟩ => ⟨k', lt, r⟩, ?_⟩
      refine do_setG (do_pop (e8 _ _ hus) (ev_var rfl) fun H9 e9 => ?_)
      have e79 := e8.trans e9
      have et10 : ET K H7 (upd H9 td (.lst ws)) := ET.trans (Dw.Ex.et e79) (ET.refl.upd (e79 _ _ hus))
      have x10 : Ex H (upd H9 td (.lst ws)) := (e7.trans e79).mut nt3
      have td10 : (upd H9 td (.lst ws)) td = some (.lst ws) := upd_same
      have pb10 := paired_imp (fun _ _ z => PrV.et et10 z) pb
      have pt10 := PrV.et et10 pt
      generalize upd H9 td (.lst ws) = H10 at *
      obtain ⟨aa, pa, vv, xs, rfl, sa, sp, lx, tvv, okt⟩ := pt10
      refine ⟨aa, _, rfl, sa, rfl, _, _, rfl, _, _, rfl, rfl, ?_⟩
      show tSeq _ _ _ [some (.ref d), some v, some (vi n), some (.ref td), some (.ref pa), some vv, y7] H10
      obtain ⟨kvs, hd, val⟩ := id plc
      refine q_when (b := false) (et_is (et_not (et_val (ev_callV (v := .bl true) (sg, t') (ea_cons (ev_var rfl) (ea_cons (ev_var rfl) ea_nil)) (fun H11 e11 => ⟨⟨_, _, rfl, ⟨kvs, (x10.trans e11) _ _ hd, val⟩, tvv.et (Dw.Ex.et e11)⟩, okt⟩) (fun _ _ p => p)))) rfl) (fun hb => by cases hb) (fun _ H11 e11 => ?_)
      refine q_aug (a := (n : Int)) (b := 1) rfl ev_c fun H12 e12 => ?_
      have en : V.int ((n : Int) + 1) = vi (n + 1) := by
        show _ = V.int (((n + 1 : Nat)) : Int)
        rw [Int.natCast_add]
        rfl
      show tIfS _ _ _ _ [some (.ref d), some v, some (V.int ((n : Int) + 1)), some (.ref td), some (.ref pa), some vv, y7] H12
      rw [en]
      have e1012 := e11.trans e12
      have x12 : Ex H H12 := x10.trans e1012
      have td12 : H12 td = some (.lst ws) := e1012 _ _ td10
      have pb12 := paired_imp (fun _ _ z => PrV.et (Dw.Ex.et e1012) z) pb10
      have tv12 := tvv.et (Dw.Ex.et e1012)
      have sp12 := ex_t e1012 sp
      have lw := paired_len pb12
      have lb := len_szs b
      cases t' with
      | var x =>
        rw [TmV] at tv12
        obtain ⟨c, rfl, hc⟩ := tv12
        refine s_when (b := false) (et_is (et_test (ev_op (ev_op (ev_var rfl) ev_c (rv_ixT (K := K) hc (atI_vi (k := 0) rfl))) ev_c (rv_eq rfl))) (by decide)) (fun hb => by cases hb) (fun _ H13 e13 => ?_)
        rw [Tm.sz] at tot
        exact ⟨szs b, by rw [szs_app, szs, Tm.sz]; omega, x12.trans e13, b, ws, n + 1, _, _, _, rfl, e13 _ _ td12, paired_imp (fun _ _ z => PrV.et (Dw.Ex.et e13) z) pb12, by omega, rfl⟩
      | deed g ts =>
        rw [TmV] at tv12
        rw [Tm.ok] at okt
        obtain ⟨c, cc, vs, rfl, hc, hcc, tvs⟩ := tv12
        have lvs := tvs.len
        have lts := len_szs ts
        rw [Tm.sz] at tot lx
        refine s_when (b := true) (et_is (et_test (ev_op (ev_op (ev_var rfl) ev_c (rv_ixT (K := K) hc (atI_vi (k := 0) rfl))) ev_c (rv_eq rfl))) (by decide)) (fun _ H13 e13 => ?_) (fun hb => by cases hb)
        have hc13 := ex_t e13 hc
        have hcc13 := ex_t e13 hcc
        refine s_forRev (n := ts.length) (ev_is (ev_lenT (K := K) (ev_op (ev_var rfl) ev_c (rv_ixT (K := K) hc13 (atI_vi (k := 2) rfl))) hcc13) (by rw [lvs])) (by omega) (fun i σ' H' => Ex H H' ∧ ET K H13 H' ∧ ∃ (us : List V) (y7 : Option V), H' td = some (.lst us) ∧ Paired (PrV K H' sg t.sz) us (b ++ ts.reverse.take i) ∧ σ' = [some (.ref d), some v, some (vi (n + 1)), some (.ref td), some (.ref pa), some (.ref c), y7])
          (fun H14 e14 => ⟨(x12.trans e13).trans e14, Dw.Ex.et e14, ws, _, (e13.trans e14) _ _ td12, by rw [List.take_zero, List.append_nil]; exact paired_imp (fun _ _ z => PrV.et (Dw.Ex.et (e13.trans e14)) z) pb12, rfl⟩) (fun i σ' H14 hi hP => ?_) (fun σ' H14 hP => ?_)
        · obtain ⟨x14, et14, us', y7', td14, p14, hσ⟩ := hP
          subst hσ
          have ln := paired_len p14
          have kl : ts.length - 1 - i < ts.length := by omega
          have e5 : List.length (ts.reverse.take i) ≤ ts.length := by rw [List.length_take, List.length_reverse]; omega
          rw [List.length_append] at ln
          obtain ⟨cv, hcv, tcv⟩ := (tvs.et (ET.trans (Dw.Ex.et e13) et14)).put kl
          have hc14 := et14 _ _ hc13
          have hcc14 := et14 _ _ hcc13
          have sp14 := et14 _ _ (ex_t e13 sp12)
          have szc : (ts[ts.length - 1 - i]).sz ≤ szs ts := sz_le (List.getElem?_eq_getElem kl)
          show tDrop _ _ [some (.ref d), some v, some (vi (n + 1)), some (.ref td), some (.ref pa), some (.ref c), some (vi (ts.length - 1 - i))] H14
          refine do_app td14 (ev_var rfl) fun H15 e15 => do_tup (do_cons (do_op (do_ev (ev_var rfl) fun H16 e16 => do_tup (do_cons (do_ev (ev_var rfl) fun H17 e17 => do_nil ⟨by show 1 ≤ sizeLine; decide, fun q1 nq1 => ?_⟩)))))
          have e1417 := (e15.trans e16).trans e17
          have x18 : Ex H14 (upd H17 q1 (.tup [vi (ts.length - 1 - i)])) := e1417.trans (Ex.new nq1)
          have sq1 : SqT K (upd H17 q1 (.tup [vi (ts.length - 1 - i)])) q1 [vi (ts.length - 1 - i)] := st_of upd_same
          generalize upd H17 q1 (.tup [vi (ts.length - 1 - i)]) = H18 at *
          have go : ∀ (H19 : Hp) (pv : Addr) (zs : List V), Ex H18 H19 → SqT K H19 pv zs → zs.length = xs.length + 1 → tCons (tOp (rIxT K) (tOp (rIxT K) (tVar 5) (tC (.int 2))) (tVar 6)) tNil [some (.ref d), some v, some (vi (n + 1)), some (.ref td), some (.ref pa), some (.ref c), some (vi (ts.length - 1 - i))] H19 (fun rest H20 => (V.ref pv :: rest).length ≤ sizeLine ∧ ∀ p, H20 p = none → (∃ a1 ys y, V.ref td = .ref a1 ∧ [V.ref p] = [y] ∧ (upd H20 p (.tup (V.ref pv :: rest))) a1 = some (.lst ys) ∧ ys.length < sizeLine ∧ (Ex H (upd (upd H20 p (.tup (V.ref pv :: rest))) a1 (.lst (ys ++ [y]))) ∧ ET K H13 (upd (upd H20 p (.tup (V.ref pv :: rest))) a1 (.lst (ys ++ [y]))) ∧ ∃ (us : List V) (y7 : Option V), (upd (upd H20 p (.tup (V.ref pv :: rest))) a1 (.lst (ys ++ [y]))) td = some (.lst us) ∧ Paired (PrV K (upd (upd H20 p (.tup (V.ref pv :: rest))) a1 (.lst (ys ++ [y]))) sg t.sz) us (b ++ ts.reverse.take (i + 1)) ∧ [some (.ref d), some v, some (vi (n + 1)), some (.ref td), some (.ref pa), some (.ref c), some (vi (ts.length - 1 - i))] = [some (.ref d), some v, some (vi (n + 1)), some (.ref td), some (.ref pa), some (.ref c), y7]))) := by
            intro H19 pv zs e19 sz19 lz
            have e1419 := x18.trans e19
            refine do_cons (do_ev (ev_op (ev_op (ev_var rfl) ev_c (rv_ixT (K := K) (ex_t e1419 hc14) (atI_vi (k := 2) rfl))) (ev_var rfl) (rv_ixT (K := K) (ex_t e1419 hcc14) (atI_vi (k := ts.length - 1 - i) hcv))) fun H20 e20 => do_nil ⟨by show 2 ≤ sizeLine; decide, fun p np => ?_⟩)
            have x21 : Ex H14 (upd H20 p (.tup [.ref pv, cv])) := (e1419.trans e20).trans (Ex.new np)
            have td21 : (upd H20 p (.tup [.ref pv, cv])) td = some (.lst us') := x21 _ _ td14
            refine ⟨td, us', .ref p, rfl, rfl, td21, sz_lt (by omega), (x14.trans x21).mut nt3, ET.trans et14 (ET.trans (Dw.Ex.et x21) (ET.refl.upd td21)), us' ++ [.ref p], _, upd_same, ?_, rfl⟩
            have et22 : ET K H14 (upd (upd H20 p (.tup [.ref pv, cv])) td (.lst (us' ++ [.ref p]))) := ET.trans (Dw.Ex.et x21) (ET.refl.upd td21)
            have et23 : ET K (upd H20 p (.tup [.ref pv, cv])) (upd (upd H20 p (.tup [.ref pv, cv])) td (.lst (us' ++ [.ref p]))) := ET.refl.upd td21
            have hr2 : ts.reverse[i]? = some ts[ts.length - 1 - i] := by
              rw [List.getElem?_reverse (by omega), List.getElem?_eq_getElem kl]
            rw [List.take_add_one, hr2, ← List.append_assoc]
            refine paired_snoc ⟨p, pv, cv, zs, rfl, et23 _ _ (st_of upd_same), et23 _ _ (ex_t (e20.trans (Ex.new np)) sz19), by omega, tcv.et et22, oks_get okt.2 (List.getElem?_eq_getElem kl)⟩ (paired_imp (fun _ _ z => PrV.et et22 z) p14)
          refine ⟨pa, q1, xs, [vi (ts.length - 1 - i)], rfl, rfl, ex_t x18 sp14, sq1, sz_of (by rw [List.length_singleton]; omega), fun e => ?_, fun _ z => (by cases z), fun ne2 _ p3 np3 => ?_⟩
          · subst e
            exact go H18 q1 _ (Ex.refl _) sq1 rfl
          · exact go _ p3 _ (Ex.new np3) (st_of upd_same) (by rw [List.length_append]; rfl)
        · obtain ⟨x14, et14, us', y7', td14, p14, hσ⟩ := hP
          subst hσ
          have full : ts.reverse.take ts.length = ts.reverse := List.take_of_length_le (by rw [List.length_reverse]; exact Nat.le_refl _)
          rw [full] at p14
          exact ⟨szs (b ++ ts.reverse), by rw [szs_app, szs_app, szs_rev, szs, szs, Tm.sz]; omega, x14, b ++ ts.reverse, us', n + 1, _, _, _, rfl, td14, p14, by rw [szs_app, szs_rev]; omega, rfl⟩
    · have no : stk = [] := by
        cases us with
        | nil => exact List.length_eq_zero_iff.mp lu.symm
        | cons _ _ => cases hb
      subst no
      rw [szs] at tot
      have le : n ≤ 60 := by omega
      exact s_ret (v := .non) (ev_if (b := false) (et_is (et_test (ev_op (ev_var rfl) ev_c rv_I0)) (decide_eq_false (by show ¬ ((n : Int) > 60); omega))) (fun z => by cases z) (fun _ => ev_c)) fun H9 e9 => q _ H9 (x3.trans (e7.trans (e8.trans e9))) rfl
def sp_term_wrong (K : PySem.W.Frag) : Sp := spX (fun (p : List (Str × Nat) × Tm) vs H => (∃ u v, vs = [u, v] ∧ FSig K H u p.1 ∧ TmV K H p.2 v) ∧ SigOk p.1 ∧ p.2.ok p.1 ∧ p.2.sz ≤ 60) (fun _ v _ => v = .non)
theorem c_term_wrong (T : Txt mg) (D : Df K mg "term_wrong" s_term_wrong ["signature", "thing"]) (c_need_signature : Cl P w K mg base 5 "need_signature" (sp_need_signature K)) (c_wrong_in_term : Cl P w K mg base 2 "wrong_in_term" (sp_wrong_in_term K)) : Cl P w K mg base 6 "term_wrong" (sp_term_wrong K) := by
  refine cl_of (k := 5) D sc_term_wrong (fun vs H Q E h => ?_) (fun f cdv A outer s H vs Q E hr h => ?_)
  · obtain ⟨p, ⟨⟨u, v, rfl, _⟩, _⟩, _⟩ := h
    rfl
  · obtain ⟨⟨sg, t⟩, ⟨⟨u, v, rfl, hF, tv⟩, sok, ok, small⟩, q⟩ := h
    refine ⟨_, (pss_cons (ps_expr (pe_cl c_need_signature hr (by first | decide | omega) (by rfl) (pa_cons (pv 0) pa_nil)))
      (pss_one (ps_ret (pe_cl c_wrong_in_term hr (by first | decide | omega) (by rfl) (pa_cons (pe_callTy (call_dictT rfl) (by rfl) T.z_dict (by decide +kernel) (pa_cons (pv 0) pa_nil)) (pa_cons (pv 1) pa_nil)))))), ?_⟩
    replace hF : FSig K H u sg := hF
    replace tv : TmV K H t v := tv
    replace sok : SigOk sg := sok
    replace ok : t.ok sg := ok
    replace small : t.sz ≤ 60 := small
    refine q_drop (ev_callV (v := .non) sg (ea_cons (ev_var rfl) ea_nil) (fun H1 e1 => ⟨⟨_, rfl, (hF.ex e1).sig⟩, sok⟩) (fun _ _ p => p)) fun H1 e1 => ?_
    obtain ⟨a, o, ps, rfl, ha, od, pr⟩ := hF.ex e1
    refine do_ret (do_cons (do_cb (do_cons (do_ev (ev_var rfl) fun H2 e2 => ?_))))
    refine ⟨a, o, ps, kvsOf sg, rfl, e2 _ _ ha, od, paired_mapR (f := fun d : Str × Nat => ((Sum.inr d.1 : Key), vi d.2)) (fun _ _ z => ex_t e2 z) pr, fun d nd => ?_⟩
    have x3 : Ex H (upd H2 d (.dK (mergeK [] (kvsOf sg)))) := (e1.trans e2).trans (Ex.new nd)
    have plc : Plc (upd H2 d (.dK (mergeK [] (kvsOf sg)))) d sg := ⟨_, upd_same, fun p hp => val_merge sg [] p.1 p.2 sok.nd (.inl hp)⟩
    generalize upd H2 d (.dK (mergeK [] (kvsOf sg))) = H3 at *
    refine do_cons (do_ev (ev_var rfl) fun H4 e4 => do_nil ?_)
    obtain ⟨kvs, hd, val⟩ := id plc
    exact ⟨(sg, t), ⟨⟨d, v, rfl, ⟨kvs, e4 _ _ hd, val⟩, tv.et (Dw.Ex.et (x3.trans e4))⟩, ok, small⟩, fun v H' e p => q v H' (x3.trans (e4.trans e)) p⟩
end
end K11
end
section
namespace K11
open PySem PySem.Spec PyProof.Rows L2 Evl RZ Dw M20
/-! ### worths -/
def plc (n : Nat) (ns : List Nat) : Nat := ns.foldl (fun acc k => acc * n + k) 0
def tbOf : List (Str × Nat) → List (List Nat) → Str → List Nat
  | d :: sg, tb :: tbs, f => if d.1 = f then tb else tbOf sg tbs f
  | _, _, _ => []
mutual
def Tm.wt (n : Nat) (sg : List (Str × Nat)) (tbs : List (List Nat)) (env : Str → Nat) : Tm → Nat
  | .var x => env x
  | .deed f ts => g (tbOf sg tbs f) (plc n (wts n sg tbs env ts))
def wts (n : Nat) (sg : List (Str × Nat)) (tbs : List (List Nat)) (env : Str → Nat) : List Tm → List Nat
  | [] => []
  | t :: ts => t.wt n sg tbs env :: wts n sg tbs env ts
end
section
variable {σ : L2.St} {H : Hp} {ta tb te : TE}
end
section
variable {P : Program} {w : World} {K : PySem.W.Frag} {mg : Str → Option Value} {base : Heap}
end
end K11
end
section
namespace K11
open PySem PySem.Spec PyProof.Rows L2 Evl RZ Dw M20
/-- what worth_under is handed -/
structure WArg where
  sg : List (Str × Nat)
  n : Nat
  tbs : List (List Nat)
  t : Tm
  env : Str → Nat
def WArg.wt (p : WArg) : Nat := p.t.wt p.n p.sg p.tbs p.env
/-- a dict that tells the worths of some letters -/
def Env (H : Hp) (dd : Addr) (ls : List Str) (env : Str → Nat) : Prop := ∃ kvs : List (Key × V), H dd = some (.dK kvs) ∧ ∀ x ∈ ls, valV kvs (.inr x) = some (vi (env x))
section
variable {P : Program} {w : World} {K : PySem.W.Frag} {mg : Str → Option Value} {base : Heap}
end
end K11
end
section
namespace K11
open PySem PySem.Spec PyProof.Rows L2 Evl RZ Dw M20
section
variable {P : Program} {w : World} {K : PySem.W.Frag} {mg : Str → Option Value} {base : Heap}
end
end K11
end
section
namespace K11
open PySem PySem.Spec PyProof.Rows L2 Evl RZ Dw M20
/-- the worths of letters in row r of all -/
def envR (n : Nat) (ls : List Str) (r : Nat) (x : Str) : Nat := r / n ^ (ls.length - 1 - ls.idxOf x) % n
structure CArg where
  sg : List (Str × Nat)
  n : Nat
  tbs : List (List Nat)
  t : Tm
  ls : List Str
def CArg.at (p : CArg) (r : Nat) : Nat := p.t.wt p.n p.sg p.tbs (envR p.n p.ls r)
structure COk (d : Nat) (p : CArg) : Prop where
  so : SigOk p.sg
  mo : MdlOk p.sg p.n p.tbs
  ok : p.t.ok p.sg
  has : ∀ x ∈ p.t.ls, x ∈ p.ls
  l4 : p.ls.length ≤ 4
  few : p.t.sz ≤ d
section
variable {P : Program} {w : World} {K : PySem.W.Frag} {mg : Str → Option Value} {base : Heap}
end
end K11
end
section
namespace K11
open PySem PySem.Spec PyProof.Rows L2 Evl RZ Dw M20
section
variable {P : Program} {w : World} {K : PySem.W.Frag} {mg : Str → Option Value} {base : Heap}
end
end K11
end
section
namespace K11
open PySem PySem.Spec PyProof.Rows L2 Evl RZ Dw M20
/-! ### the letters of a term, in order -/
def inner (t : Tm) : List Str := vars.filter fun x => decide (x ∈ t.ls)
abbrev up (a b : Str) : Prop := vars.idxOf a ≤ vars.idxOf b
theorem v_le : ∀ a ∈ vars, ∀ b ∈ vars, ltCps b.cps.toList a.cps.toList = false → up a b := by decide +kernel
theorem v_inj : ∀ a ∈ vars, ∀ b ∈ vars, up a b → up b a → a = b := by decide +kernel
theorem vars_up : vars.Pairwise up := by decide +kernel
theorem vars_nd : vars.Nodup := by decide +kernel
theorem rising_up : ∀ (r : List Str) (p : Str), p ∈ vars → (∀ x ∈ r, x ∈ vars) → risingS p r = true → (∀ x ∈ r, up p x) ∧ r.Pairwise up
  | [], p, _, _, _ => ⟨fun x hx => (nomatch hx), List.Pairwise.nil⟩
  | y :: r, p, hp, hr, h => by
    rw [risingS, Bool.and_eq_true, Bool.not_eq_true'] at h
    have hy : y ∈ vars := hr y (List.mem_cons_self ..)
    obtain ⟨a, b⟩ := rising_up r y hy (fun x hx => hr x (List.mem_cons_of_mem _ hx)) h.2
    have py : up p y := v_le p hp y hy h.1
    refine ⟨fun x hx => ?_, List.pairwise_cons.mpr ⟨a, b⟩⟩
    rcases List.mem_cons.mp hx with e | e
    · rw [e]
      exact py
    · exact Nat.le_trans py (a x e)
theorem sorted_up {ys : List Str} (h : sortedS ys = true) (sub : ∀ x ∈ ys, x ∈ vars) : ys.Pairwise up := by
  cases ys with
  | nil => exact .nil
  | cons x r =>
    obtain ⟨a, b⟩ := rising_up r x (sub x (List.mem_cons_self ..)) (fun y hy => sub y (List.mem_cons_of_mem _ hy)) h
    exact List.pairwise_cons.mpr ⟨a, b⟩
theorem inner_nd (t : Tm) : (inner t).Nodup := List.Pairwise.filter _ vars_nd
theorem mem_inner {t : Tm} (sub : ∀ x ∈ t.ls, x ∈ vars) {x : Str} : x ∈ inner t ↔ x ∈ t.ls := by
  unfold inner
  rw [List.mem_filter]
  constructor
  · intro h
    exact of_decide_eq_true h.2
  · intro h
    exact ⟨sub x h, decide_eq_true h⟩
theorem sorted_is {ys : List Str} {t : Tm} (nd : ys.Nodup) (so : sortedS ys = true) (sub : ∀ x ∈ t.ls, x ∈ vars) (mem : ∀ x, x ∈ ys ↔ x ∈ t.ls) : ys = inner t := by
  have sy : ∀ x ∈ ys, x ∈ vars := fun x hx => sub x ((mem x).mp hx)
  refine List.Perm.eq_of_pairwise (le := up) (fun a b ha hb => v_inj a (sy a ha) b (List.mem_filter.mp hb).1) (sorted_up so sy) (List.Pairwise.filter _ vars_up) ?_
  exact (List.perm_ext_iff_of_nodup nd (inner_nd t)).mpr fun x => by rw [mem x, mem_inner sub]
mutual
theorem ls_vars {sg : List (Str × Nat)} : ∀ (t : Tm), t.ok sg → ∀ x ∈ t.ls, x ∈ vars
  | .var y, h, x, hx => by
    rw [Tm.ok] at h
    rw [Tm.ls] at hx
    rw [List.mem_singleton.mp hx]
    exact h
  | .deed f ts, h, x, hx => by
    rw [Tm.ok] at h
    rw [Tm.ls] at hx
    exact lss_vars ts h.2 x hx
theorem lss_vars {sg : List (Str × Nat)} : ∀ (ts : List Tm), oks sg ts → ∀ x ∈ lss ts, x ∈ vars
  | [], _, x, hx => by
    rw [lss] at hx
    cases hx
  | t :: ts, h, x, hx => by
    rw [oks] at h
    rw [lss] at hx
    rcases List.mem_append.mp hx with e | e
    · exact ls_vars t h.1 x e
    · exact lss_vars ts h.2 x e
end
/-! ### a dict of letters and worths -/
def envN (ls : List Str) (ns : List Nat) (x : Str) : Nat := g ns (ls.idxOf x)
section
variable {K : PySem.W.Frag} {σ : L2.St} {H : Hp} {ta tb te : TE}
theorem ep_new {xs : List V} (h : EvL te σ H xs) : EvP te σ H (fun v H' => ∃ l, v = .ref l ∧ H' l = some (.lst xs)) := fun H1 e Q q => h H1 e _ fun l H2 _ e2 hl => q _ H2 e2 ⟨l, rfl, hl⟩
end
theorem given_filter (xs : List Str) (p : Str → Bool) : given xs.length (fun i => p (xs.getD i "")) (fun i => .str (xs.getD i "")) = (xs.filter p).map V.str := by
  have e : xs = (List.range xs.length).map fun i => xs.getD i "" := by
    apply List.ext_getElem?
    intro i
    by_cases hi : i < xs.length
    · rw [List.getElem?_map, List.getElem?_range hi, List.getElem?_eq_getElem hi]
      show _ = some (xs.getD i "")
      rw [List.getD_eq_getElem?_getD, List.getElem?_eq_getElem hi]
      rfl
    · rw [List.getElem?_eq_none_iff.mpr (by omega), List.getElem?_eq_none_iff.mpr (by simp; omega)]
  unfold given
  conv => rhs; rw [e]
  rw [List.filter_map, List.map_map]
  rfl
theorem dps_strs {K : PySem.W.Frag} {H : Hp} : ∀ zs : List Str, DpAll K H (zs.map V.str) (zs.map PyData.str)
  | [] => .nil
  | z :: zs => .cons (.str z) (dps_strs zs)
/-- what worth_by is handed -/
structure BArg where
  sg : List (Str × Nat)
  n : Nat
  tbs : List (List Nat)
  t : Tm
  ns : List Nat
def BArg.wt (p : BArg) : Nat := p.t.wt p.n p.sg p.tbs (envN (inner p.t) p.ns)
section
variable {P : Program} {w : World} {K : PySem.W.Frag} {mg : Str → Option Value} {base : Heap} {va : Addr}
/-- variables_of([term]) -/
theorem ep_vars {σ : L2.St} {H : Hp} {te : TE} {E : XK} {tv : V} {t : Tm} {sg : List (Str × Nat)} (h : Ev te σ H tv) (hT : TmV K H t tv) (ok : t.ok sg) (few : t.sz ≤ 60) :
    EvP (tCall (sp_variables_of K) [] E (tCons (tLst (tCons te tNil)) tNil)) σ H (fun v H' => FStrs H' v (inner t)) := by
  refine (ep_callP [t] (eap_cons (P := fun v H' => ∃ l, v = .ref l ∧ H' l = some (.lst [tv])) (ep_new (el_lst (ea_cons h ea_nil) (by show 1 ≤ 100000; decide))) eap_nil (fun _ _ _ e ⟨l, a, b⟩ => ⟨l, a, e _ _ b⟩)) (fun vs H1 e1 ⟨v, r, q1, ⟨l, q2, hl⟩, q3⟩ => by
    subst q1 q2 q3
    exact ⟨⟨l, [tv], rfl, .inl (sq_of hl), TmsV.one (hT.et (Dw.Ex.et e1))⟩, by rw [szs, szs]; omega⟩)).imp fun v H' _ hp => ?_
  obtain ⟨ys, hp, nd, so, mem⟩ := hp
  have sub := ls_vars t ok
  have ey : ys = inner t := sorted_is nd so sub fun x => by rw [mem x, lss, lss, List.append_nil]
  rw [ey] at hp
  exact hp
end
end K11
end
section
namespace K11
open PySem PySem.Spec PyProof.Rows L2 Evl RZ Dw M20
/-! ### the purse -/
/-- a purse at p, its cells at c, t draws done -/
def Pur (H : Hp) (p c : Addr) (t : Nat) : Prop := c = p ∧ ∃ (d m : Int) (k : Nat), H p = some (.lst [.int d, .int m, vi k]) ∧ 0 ≤ d ∧ d < 10 ^ 180 ∧ 0 ≤ m ∧ m < 2147483629 ∧ k ≤ t + 3000
/-- all but these two as it was -/
def Off (H H' : Hp) (p c : Addr) : Prop := ∀ b o, b ≠ p → b ≠ c → H b = some o → H' b = some o
theorem Off.refl {H : Hp} {p c : Addr} : Off H H p c := fun _ _ _ _ h => h
theorem Off.trans {H H1 H2 : Hp} {p c : Addr} (a : Off H H1 p c) (b : Off H1 H2 p c) : Off H H2 p c := fun x o h1 h2 h => b x o h1 h2 (a x o h1 h2 h)
theorem Off.of_ex {H H' : Hp} {p c : Addr} (e : Ex H H') : Off H H' p c := fun b o _ _ h => e b o h
theorem Pur.ex {H H' : Hp} {p c : Addr} {t : Nat} (e : Ex H H') (h : Pur H p c t) : Pur H' p c t := ⟨h.1, let ⟨d, m, k, a, r⟩ := h.2; ⟨d, m, k, e _ _ a, r⟩⟩
theorem Pur.at1 {H : Hp} {p c : Addr} {t : Nat} (h : Pur H p c t) : ∃ xs, H p = some (.lst xs) := let ⟨_, _, _, a, _⟩ := h.2; ⟨_, a⟩
theorem Pur.at2 {H : Hp} {p c : Addr} {t : Nat} (h : Pur H p c t) : ∃ xs, H c = some (.lst xs) := by
  rw [h.1]
  exact h.at1
/-- a new address is neither -/
theorem Pur.fresh {H : Hp} {p c b : Addr} {t : Nat} (h : Pur H p c t) (n : H b = none) : b ≠ p ∧ b ≠ c := by
  obtain ⟨xs, h1⟩ := h.at1
  have e : b ≠ p := fun e => by
    rw [e, h1] at n
    cases n
  exact ⟨e, by rw [h.1]; exact e⟩
theorem Off.et {K : PySem.W.Frag} {H H' : Hp} {p c : Addr} {t : Nat} (o : Off H H' p c) (h : Pur H p c t) : ET K H H' := fun a xs q => by
  obtain ⟨xs1, h1⟩ := h.at1
  obtain ⟨xs2, h2⟩ := h.at2
  have no : ∀ u, H a = some u → (∀ ys, u ≠ .lst ys) → H' a = some u := fun u hu hl => o a u (fun e => by rw [e, h1] at hu; exact hl _ (Option.some.inj hu).symm) (fun e => by
    rw [e, h2] at hu
    exact hl _ (Option.some.inj hu).symm) hu
  rcases q with (q | ⟨ob, q⟩) | q
  · exact .inl (.inl (no _ q fun _ z => by cases z))
  · exact .inl (.inr ⟨ob, no _ q fun _ z => by cases z⟩)
  · exact .inr q
section
variable {P : Program} {w : World} {K : PySem.W.Frag} {mg : Str → Option Value} {base : Heap}
theorem vi_mod {x : Int} {n : Nat} (h : 1 ≤ n) : ∃ k, k < n ∧ V.int (x % (n : Int)) = vi k := by
  have h1 : 0 ≤ x % (n : Int) := Int.emod_nonneg _ (by omega)
  have h2 : x % (n : Int) < n := Int.emod_lt_of_pos _ (by omega)
  exact ⟨(x % (n : Int)).toNat, by omega, by show V.int _ = V.int _; rw [Int.toNat_of_nonneg h1]⟩
end
theorem Off.sql {K : PySem.W.Frag} {H H' : Hp} {p c l : Addr} {xs : List V} (o : Off H H' p c) (h1 : l ≠ p) (h2 : l ≠ c) (h : SqL K H l xs) : SqL K H' l xs := by
  rcases h with (h | ⟨ob, h⟩) | h
  · exact .inl (.inl (o _ _ h1 h2 h))
  · exact .inl (.inr ⟨ob, o _ _ h1 h2 h⟩)
  · exact .inr h
theorem Off.upd {H H' : Hp} {p c l : Addr} {o : HO} (f : Off H H' p c) (n : H l = none) : Off H (upd H' l o) p c := fun b u b1 b2 h => by
  rw [upd_ne (ne_of_none h n)]
  exact f b u b1 b2 h
theorem Off.back {H H' : Hp} {p c l : Addr} (f : Off H H' p c) (h1 : l ≠ p) (h2 : l ≠ c) (n : H' l = none) : H l = none := by
  cases e : H l with
  | none => rfl
  | some o =>
    rw [f l o h1 h2 e] at n
    cases n
theorem Pur.upd {H : Hp} {p c l : Addr} {t : Nat} {o : HO} (h : Pur H p c t) (h1 : l ≠ p) (h2 : l ≠ c) : Pur (upd H l o) p c t := ⟨h.1, let ⟨d, m, k, a, r⟩ := h.2; ⟨d, m, k, by rw [upd_ne (Ne.symm h1)]; exact a, r⟩⟩
section
variable {P : Program} {w : World} {K : PySem.W.Frag} {mg : Str → Option Value} {base : Heap}
section
variable {σ : L2.St} {H : Hp} {D : Ends} {tu tz : TS}
/-- for x in range(e), e by what holds of it -/
theorem q_forRX {ta : TA} {j : Nat} (C : Nat → Hp → Prop) (h : ∀ Q : List V → Hp → Prop, (∀ n H1, C n H1 → Q [vi n] H1) → ta σ H Q) (hn : ∀ n H1, C n H1 → n ≤ 100000) (Pv : Nat → Nat → L2.St → Hp → Prop) (h0 : ∀ n H1, C n H1 → Pv n 0 σ H1)
    (hs : ∀ n i σ' H', i < n → Pv n i σ' H' → tu { D with nx := Pv n (i + 1), ct := Pv n (i + 1), bk := tz D } (σ'.set j (some (vi i))) H') (hd : ∀ n σ' H', Pv n n σ' H' → tz D σ' H') : tSeq (tFor (iRng1 ta) (gName j) tu) tz D σ H :=
  h _ fun n H1 c => ⟨(n : Int), rfl, by have := hn n H1 c; omega, by have := hn n H1 c; omega, for_range (D := { D with nx := tz D }) (lo := 0) (n := ((n : Nat) : Int).toNat) (Pv n) (h0 n H1 c) (fun i σ' H' hi p => by
    have e0 : (0 : Int) + (i : Int) = (i : Int) := Int.zero_add _
    show tu { D with nx := Pv n (i + 1), ct := Pv n (i + 1), bk := tz D } (σ'.set j (some (.int ((0 : Int) + (i : Int))))) H'
    rw [e0]
    exact hs n i σ' H' (by rw [Int.toNat_natCast] at hi; exact hi) p) (fun σ' H' p => hd n σ' H' (by rw [Int.toNat_natCast] at p; exact p))⟩
end
end
/-- a comprehension whose element may do anything, by what holds between its turns -/
theorem do_lcIt {J : It} {n : Nat} {G : Hp → Prop} {Y : Nat → Hp → V → Hp → Prop} {wi : TI} {g : TG} {te : TE} {σ : L2.St} {H : Hp} {vs : List Nat} {Q : VK} (w : Walk J n G Y) (hw0 : ∀ R : It → Hp → Prop, (∀ H1, Ex H H1 → R J H1) → wi σ H R) (Pv : Addr → Nat → Hp → Prop)
    (h0 : ∀ D H1, Ex H H1 → H1 D = none → Pv D 0 (upd H1 D (.lst []))) (hG : ∀ D i H', i ≤ n → Pv D i H' → G H')
    (hs : ∀ D i x H' H'', i < n → Pv D i H' → Y i H' x H'' → g x (wipe σ vs) H'' fun σ2 H2 => wipe σ2 vs = wipe σ vs ∧ if true = true then te σ2 H2 fun y H4 => ∃ acc, H4 D = some (.lst acc) ∧ acc.length < sizeLine ∧ Pv D (i + 1) (upd H4 D (.lst (acc ++ [y]))) else Pv D (i + 1) H2)
    (hd : ∀ D H', Pv D n H' → Q (.ref D) H') : tLc wi g tYes te vs σ H Q :=
  hw0 _ fun H1 e1 Dl nD => lc_it w (Pv Dl) (h0 Dl H1 e1 nD) (hG Dl) (fun i x H2 H3 hi p y => hs Dl i x H2 H3 hi p y) (fun H2 p => hd Dl H2 p)
end K11
end
section
namespace K11
open PySem PySem.Spec PyProof.Rows L2 Evl RZ Dw M20
/-- a comprehension, test and element may do anything, by what holds between its turns -/
theorem do_lcG {J : It} {n : Nat} {G : Hp → Prop} {Y : Nat → Hp → V → Hp → Prop} {wi : TI} {g : TG} {tt : TT} {te : TE} {σ : L2.St} {H : Hp} {vs : List Nat} {Q : VK} (w : Walk J n G Y) (hw0 : ∀ R : It → Hp → Prop, (∀ H1, Ex H H1 → R J H1) → wi σ H R) (Pv : Addr → Nat → Hp → Prop)
    (h0 : ∀ D H1, Ex H H1 → H1 D = none → Pv D 0 (upd H1 D (.lst []))) (hG : ∀ D i H', i ≤ n → Pv D i H' → G H')
    (hs : ∀ D i x H' H'', i < n → Pv D i H' → Y i H' x H'' → g x (wipe σ vs) H'' fun σ2 H2 => wipe σ2 vs = wipe σ vs ∧ tt σ2 H2 fun b H3 => if b = true then te σ2 H3 fun y H4 => ∃ acc, H4 D = some (.lst acc) ∧ acc.length < sizeLine ∧ Pv D (i + 1) (upd H4 D (.lst (acc ++ [y]))) else Pv D (i + 1) H3)
    (hd : ∀ D H', Pv D n H' → Q (.ref D) H') : tLc wi g tt te vs σ H Q :=
  hw0 _ fun H1 e1 Dl nD => lc_it w (Pv Dl) (h0 Dl H1 e1 nD) (hG Dl) (fun i x H2 H3 hi p y => hs Dl i x H2 H3 hi p y) (fun H2 p => hd Dl H2 p)
theorem iteF {a b : Prop} (h : b) : if false = true then a else b := h
theorem Off.seq {K : PySem.W.Frag} {H H' : Hp} {p c l : Addr} {t : Nat} {xs : List V} (o : Off H H' p c) (pu : Pur H p c t) (h1 : l ≠ p) (h2 : l ≠ c) (h : SqL K H l xs ∨ SqT K H l xs) : SqL K H' l xs ∨ SqT K H' l xs := h.imp (o.sql h1 h2) (o.et pu l xs)
section
variable {P : Program} {w : World} {K : PySem.W.Frag} {mg : Str → Option Value} {base : Heap}
/-! ### pick -/
/-! ### cells, whole -/
end
end K11
end
section
namespace K11
open PySem PySem.Spec PyProof.Rows L2 Evl RZ Dw M20
/-! ### texts joined of single signs -/
abbrev one (c : Nat) : Str := ⟨#[c]⟩
section
variable {K : PySem.W.Frag} {σ : L2.St} {H : Hp} {te tl : TE}
end
theorem paired_at {α β : Type} {R : α → β → Prop} : ∀ {xs : List α} {ys : List β} {i : Nat} {x : α}, Paired R xs ys → xs[i]? = some x → ∃ y, ys[i]? = some y ∧ R x y
  | _, _, _, _, .nil, h => by simp at h
  | _, _, 0, _, .cons a _, h => by
    have e := Option.some.inj h
    subst e
    exact ⟨_, rfl, a⟩
  | _, _, i + 1, x, .cons _ b, h => by
    obtain ⟨y, e, r⟩ := paired_at (i := i) b h
    exact ⟨y, e, r⟩
section
variable {P : Program} {w : World} {K : PySem.W.Frag} {mg : Str → Option Value} {base : Heap}
end
end K11
end
section
namespace K11
open PySem PySem.Spec PyProof.Rows L2 Evl RZ Dw M20
def six : Str := "uvwxyz"
section
variable {K : PySem.W.Frag} {σ : L2.St} {H : Hp} {ta tb tc te : TE}
end
section
variable {P : Program} {w : World} {K : PySem.W.Frag} {mg : Str → Option Value} {base : Heap}
end
end K11
end
section
namespace K11
open PySem PySem.Spec PyProof.Rows L2 Evl RZ Dw M20
mutual
/-- how deep a term is -/
def Tm.hgt : Tm → Nat
  | .var _ => 0
  | .deed _ ts => 1 + hgts ts
def hgts : List Tm → Nat
  | [] => 0
  | t :: ts => max t.hgt (hgts ts)
end
theorem hgts_le {n : Nat} : ∀ {ts : List Tm}, (∀ t ∈ ts, t.hgt ≤ n) → hgts ts ≤ n
  | [], _ => by rw [hgts]; exact Nat.zero_le _
  | t :: ts, h => by
    rw [hgts]
    exact Nat.max_le.mpr ⟨h t (List.mem_cons_self ..), hgts_le fun x hx => h x (List.mem_cons_of_mem _ hx)⟩
theorem TmsV.snoc {K : PySem.W.Frag} {H : Hp} {ts : List Tm} {us : List V} {t : Tm} {u : V} (h : TmsV K H ts us) (k : TmV K H t u) : TmsV K H (ts ++ [t]) (us ++ [u]) := h.app (.one k)
theorem tmv_var {K : PySem.W.Frag} {H : Hp} {a : Addr} {x : Str} (h : SqT K H a [.str "var", .str x]) : TmV K H (.var x) (.ref a) := by
  rw [TmV]
  exact ⟨a, rfl, h⟩
theorem tmv_deed {K : PySem.W.Frag} {H : Hp} {a b : Addr} {f : Str} {ts : List Tm} {us : List V} (h : SqT K H a [.str "deed", .str f, .ref b]) (h2 : SqT K H b us) (h3 : TmsV K H ts us) : TmV K H (.deed f ts) (.ref a) := by
  rw [TmV]
  exact ⟨a, b, us, rfl, h, h2, h3⟩
theorem FSig.off {K : PySem.W.Frag} {H H' : Hp} {v : V} {sg : List (Str × Nat)} {p c : Addr} {t : Nat} (pu : Pur H p c t) (o : Off H H' p c) (h : FSig K H v sg) : FSig K H' v sg := by
  obtain ⟨a, ob, ps, q, s, d, pr⟩ := h
  obtain ⟨xs1, h1⟩ := pu.at1
  obtain ⟨xs2, h2⟩ := pu.at2
  refine ⟨a, ob, ps, q, o _ _ (fun e => ?_) (fun e => ?_) s, d, paired_imp (fun _ _ z => o.et pu _ _ z) pr⟩
  · rw [e, h1] at s
    cases s
  · rw [e, h2] at s
    cases s
section
variable {K : PySem.W.Frag} {σ : L2.St} {H : Hp} {ta tb tc : TE} {t1 : TT}
theorem do_when {c : TT} {tu tz : TS} {D : Ends} (h : c σ H fun b H1 => if b = true then tu { D with nx := tz D } σ H1 else tz D σ H1) : tSeq (tIfS c tu tNext) tz D σ H := h
end
section
variable {P : Program} {w : World} {K : PySem.W.Frag} {mg : Str → Option Value} {base : Heap}
theorem mem_lss {x : Str} : ∀ {ts : List Tm}, x ∈ lss ts → ∃ t, t ∈ ts ∧ x ∈ t.ls
  | [], h => by
    rw [lss] at h
    cases h
  | t :: ts, h => by
    rw [lss, List.mem_append] at h
    rcases h with h | h
    · exact ⟨t, List.mem_cons_self .., h⟩
    · obtain ⟨u, hu, hx⟩ := mem_lss h
      exact ⟨u, List.mem_cons_of_mem _ hu, hx⟩
end
end K11
end
section
namespace K11
open PySem PySem.Spec PyProof.Rows L2 Evl RZ Dw M20
section
variable {P : Program} {w : World} {K : PySem.W.Frag} {mg : Str → Option Value} {base : Heap}
end
end K11
end
section
namespace K11
open PySem PySem.Spec PyProof.Rows L2 Evl RZ Dw M20
section
variable {K : PySem.W.Frag} {σ : L2.St} {H : Hp} {te tl : TE} {tt : TT} {D : Ends} {tu tz : TS} {g : TG}
theorem six_at : ∀ i : Nat, i < 6 → (six.cps[i]?).map one = vars[i]? := by decide +kernel
/-- [x for x in "uvwxyz" if ..] -/
theorem el_six {j : Nat} (p : Str → Bool) (hw : ∀ x, wipe ((wipe σ [j]).set j (some x)) [j] = wipe σ [j]) (hj : ∀ x, ((wipe σ [j]).set j (some x))[j]? = some (some x)) (ht : ∀ x H1, Ex H H1 → x ∈ vars → EvT tt ((wipe σ [j]).set j (some (.str x))) H1 (p x)) :
    EvL (tLc (iStr (tC (.str six))) (gName j) tt (tVar j) [j]) σ H ((vars.filter p).map V.str) := by
  have z := el_lcIt (walk_str (z := six)) (wi := iStr (tC (.str six))) (t := tt) (te := tVar j) (σ := σ) (H := H) (j := j) (vs := [j]) (Px := fun i x => ∃ c, six.cps[i]? = some c ∧ x = .str ⟨#[c]⟩) (w_str ev_c) (fun _ _ => trivial) (fun i H x H' y => y) (fun i => p (vars.getD i "")) (fun i => .str (vars.getD i "")) (by decide) hw (fun i x H2 e2 hi hx => ?_) (fun i x H2 e2 hi hx _ => ?_)
  · have e := given_filter vars p
    have l : vars.length = six.cps.size := by decide
    rw [l] at e
    rw [e] at z
    exact z
  · obtain ⟨c, hc, rfl⟩ := hx
    have h6 := six_at i hi
    rw [hc] at h6
    have g1 : vars.getD i "" = one c := by rw [List.getD_eq_getElem?_getD, ← h6]; rfl
    rw [g1]
    exact ht (one c) H2 e2 (List.mem_iff_getElem?.mpr ⟨i, h6.symm⟩)
  · obtain ⟨c, hc, rfl⟩ := hx
    have h6 := six_at i hi
    rw [hc] at h6
    have g1 : vars.getD i "" = one c := by rw [List.getD_eq_getElem?_getD, ← h6]; rfl
    rw [g1]
    exact ev_var (hj _)
end
section
variable {P : Program} {w : World} {K : PySem.W.Frag} {mg : Str → Option Value} {base : Heap}
/-! ### the law's own worth -/
/-! ### rows -/
/-! ### letters met -/
end
end K11
end
section
namespace K11
open PySem PySem.Spec PyProof.Rows L2 Evl RZ Dw M20
/-! ### rows and columns -/
/-! ### more data -/
theorem dps_vi {K : PySem.W.Frag} {H : Hp} : ∀ ks : List Nat, DpAll K H (ks.map vi) (ks.map fun k => .int ((k : Nat) : Int))
  | [] => .nil
  | k :: ks => .cons (.int _) (dps_vi ks)
section
variable {K : PySem.W.Frag} {σ : L2.St} {H : Hp} {ta tb te tl : TE} {P R : V → Hp → Prop} {z : V} {D : Ends} {tu tz : TS}
end
section
variable {P : Program} {w : World} {K : PySem.W.Frag} {mg : Str → Option Value} {base : Heap}
end
end K11
end
section
namespace K11
open PySem PySem.Spec PyProof.Rows L2 Evl RZ Dw M20
/-- the row of numbers at a place -/
def rowAt (n m r : Nat) : List Nat := (List.range m).map fun i => r / n ^ (m - 1 - i) % n
section
variable {P : Program} {w : World} {K : PySem.W.Frag} {mg : Str → Option Value} {base : Heap}
end
end K11
end
section
namespace K11
open PySem PySem.Spec PyProof.Rows L2 Evl RZ Dw M20
section
variable {P : Program} {w : World} {K : PySem.W.Frag} {mg : Str → Option Value} {base : Heap}
end
end K11
end
section
namespace K11
open PySem PySem.Spec PyProof.Rows L2 Evl RZ Dw M20
/-! equations -/
structure Eqn where
  l : Tm
  r : Tm
/-- both sides under one roof -/
def Eqn.tm (e : Eqn) : Tm := .deed "" [e.l, e.r]
def EqV (K : PySem.W.Frag) (H : Hp) (v : V) (e : Eqn) : Prop := ∃ a u1 u2, v = .ref a ∧ SqT K H a [u1, u2] ∧ TmV K H e.l u1 ∧ TmV K H e.r u2
theorem EqV.et {K : PySem.W.Frag} {H H' : Hp} {v : V} {e : Eqn} (x : ET K H H') (h : EqV K H v e) : EqV K H' v e := let ⟨a, u1, u2, q, s, t1, t2⟩ := h; ⟨a, u1, u2, q, x _ _ s, t1.et x, t2.et x⟩
theorem EqV.ex {K : PySem.W.Frag} {H H' : Hp} {v : V} {e : Eqn} (x : Ex H H') (h : EqV K H v e) : EqV K H' v e := h.et (Dw.Ex.et x)
structure EqOk (sg : List (Str × Nat)) (e : Eqn) : Prop where
  okl : e.l.ok sg
  okr : e.r.ok sg
  fewl : e.l.sz ≤ 12
  fewr : e.r.sz ≤ 12
  l4 : (inner e.tm).length ≤ 4
theorem EqOk.sub {sg : List (Str × Nat)} {e : Eqn} (h : EqOk sg e) : ∀ x ∈ e.tm.ls, x ∈ vars := by
  intro x hx
  rw [Eqn.tm, Tm.ls, lss, lss, lss, List.append_nil, List.mem_append] at hx
  rcases hx with z | z
  · exact ls_vars _ h.okl x z
  · exact ls_vars _ h.okr x z
section
variable {P : Program} {w : World} {K : PySem.W.Frag} {mg : Str → Option Value} {base : Heap} {σ : L2.St} {H : Hp}
theorem FStrs.sq {v : V} {ls : List Str} (h : FStrs H v ls) : ∃ a, v = .ref a ∧ SqT K H a (ls.map V.str) := let ⟨a, o, q, s, _⟩ := h; ⟨a, q, .inl (.inr ⟨o, s⟩)⟩
/-- equations in a tuple, a kind -/
def EqsV (K : PySem.W.Frag) (H : Hp) (b : Addr) (es : List Eqn) : Prop := ∃ us, SqT K H b us ∧ Paired (fun u e => EqV K H u e) us es
theorem EqsV.ex {H H' : Hp} {b : Addr} {es : List Eqn} (x : Ex H H') (h : EqsV K H b es) : EqsV K H' b es := let ⟨us, s, p⟩ := h; ⟨us, ex_t x s, paired_imp (fun _ _ z => z.ex x) p⟩
def KindV (K : PySem.W.Frag) (H : Hp) (v : V) (sg : List (Str × Nat)) (es : List Eqn) : Prop := ∃ a u b, v = .ref a ∧ SqT K H a [u, .ref b] ∧ FSig K H u sg ∧ EqsV K H b es
theorem KindV.ex {H H' : Hp} {v : V} {sg : List (Str × Nat)} {es : List Eqn} (x : Ex H H') (h : KindV K H v sg es) : KindV K H' v sg es := let ⟨a, u, b, q, s, f, e⟩ := h; ⟨a, u, b, q, ex_t x s, f.ex x, e.ex x⟩
end
end K11
end
section
namespace K11
open PySem PySem.Spec PyProof.Rows L2 Evl RZ Dw M20
structure UArg where
  sg : List (Str × Nat)
  n : Nat
  tbs : List (List Nat)
  e : Eqn
def UArg.ls (p : UArg) : List Str := inner p.e.tm
def UArg.m (p : UArg) : Nat := p.ls.length
def UArg.lc (p : UArg) : CArg := ⟨p.sg, p.n, p.tbs, p.e.l, p.ls⟩
def UArg.rc (p : UArg) : CArg := ⟨p.sg, p.n, p.tbs, p.e.r, p.ls⟩
def UArg.odd (p : UArg) (r : Nat) : Bool := !decide (p.lc.at r = p.rc.at r)
/-- the places at which the sides are unlike -/
def UArg.unl (p : UArg) : List Nat := (List.range (p.n ^ p.m)).filter p.odd
structure UOk (p : UArg) : Prop where
  so : SigOk p.sg
  mo : MdlOk p.sg p.n p.tbs
  eo : EqOk p.sg p.e
theorem UOk.lc {p : UArg} (h : UOk p) : COk 12 p.lc := ⟨h.so, h.mo, h.eo.okl, fun x hx => (mem_inner h.eo.sub).mpr (by rw [Eqn.tm, Tm.ls, lss]; exact List.mem_append_left _ hx), h.eo.l4, h.eo.fewl⟩
theorem UOk.rc {p : UArg} (h : UOk p) : COk 12 p.rc := ⟨h.so, h.mo, h.eo.okr, fun x hx => (mem_inner h.eo.sub).mpr (by rw [Eqn.tm, Tm.ls, lss, lss, lss, List.append_nil]; exact List.mem_append_right _ hx), h.eo.l4, h.eo.fewr⟩
section
variable {P : Program} {w : World} {K : PySem.W.Frag} {mg : Str → Option Value} {base : Heap} {σ : L2.St} {H : Hp}
end
end K11
end
section
namespace K11
open PySem PySem.Spec PyProof.Rows L2 Evl RZ Dw M20
/-- the first that is broken, ahead of place i -/
def dueAt (bs : List (Option (List Nat))) : Nat → Option (Nat × List Nat)
  | 0 => none
  | i + 1 => match dueAt bs i with
    | some x => some x
    | none => match bs[i]? with
      | some (some r) => some (i, r)
      | _ => none
def due (bs : List (Option (List Nat))) : Option (Nat × List Nat) := dueAt bs bs.length
def UArg.bad (p : UArg) : Option (List Nat) := p.unl.head?.map (rowAt p.n p.m)
def DueV (K : PySem.W.Frag) (H : Hp) (v : V) : Option (Nat × List Nat) → Prop
  | none => v = .non
  | some (k, row) => ∃ a b, v = .ref a ∧ SqT K H a [vi k, .ref b] ∧ SqT K H b (row.map vi)
structure KArg where
  sg : List (Str × Nat)
  n : Nat
  tbs : List (List Nat)
  es : List Eqn
def KArg.u (p : KArg) (e : Eqn) : UArg := ⟨p.sg, p.n, p.tbs, e⟩
def KArg.bs (p : KArg) : List (Option (List Nat)) := p.es.map fun e => (p.u e).bad
section
variable {P : Program} {w : World} {K : PySem.W.Frag} {mg : Str → Option Value} {base : Heap} {σ : L2.St} {H : Hp}
/-- equations in a list -/
def EqsL (K : PySem.W.Frag) (H : Hp) (v : V) (es : List Eqn) : Prop := ∃ l us, v = .ref l ∧ H l = some (.lst us) ∧ Paired (fun u e => EqV K H u e) us es
theorem EqsL.ex {H H' : Hp} {v : V} {es : List Eqn} (x : Ex H H') (h : EqsL K H v es) : EqsL K H' v es := let ⟨l, us, q, s, p⟩ := h; ⟨l, us, q, x _ _ s, paired_imp (fun _ _ z => z.ex x) p⟩
end
end K11
end
section
namespace K11
open PySem PySem.Spec PyProof.Rows L2 Evl RZ Dw M20
/-! ### terms as data -/
mutual
def Tm.data : Tm → PyData
  | .var x => .tuple [.str "var", .str x]
  | .deed f ts => .tuple [.str "deed", .str f, .tuple (datas ts)]
def datas : List Tm → List PyData
  | [] => []
  | t :: ts => t.data :: datas ts
end
mutual
theorem TmV.dp {K : PySem.W.Frag} {H : Hp} : ∀ {t : Tm} {v : V}, TmV K H t v → Dp K H v t.data
  | .var x, v, h => by
    rw [TmV] at h
    obtain ⟨a, rfl, s⟩ := h
    rw [Tm.data]
    exact .tup s (.cons (.str _) (.cons (.str _) .nil))
  | .deed f ts, v, h => by
    rw [TmV] at h
    obtain ⟨a, b, vs, rfl, s, s2, r⟩ := h
    rw [Tm.data]
    exact .tup s (.cons (.str _) (.cons (.str _) (.cons (.tup s2 (TmsV.dp r)) .nil)))
theorem TmsV.dp {K : PySem.W.Frag} {H : Hp} : ∀ {ts : List Tm} {vs : List V}, TmsV K H ts vs → DpAll K H vs (datas ts)
  | [], vs, h => by
    rw [TmsV] at h
    subst h
    rw [datas]
    exact .nil
  | t :: ts, vs, h => by
    rw [TmsV] at h
    obtain ⟨v, us, rfl, a, b⟩ := h
    rw [datas]
    exact .cons (TmV.dp a) (TmsV.dp b)
end
theorem gd_strB {z : Str} (h : ∀ c ∈ z.cps.toList, c < 0x110000) (l : z.cps.size ≤ 4) : Gd 0 4 (.str z) := by
  have g := gd_str h (Nat.le_trans l (by decide))
  exact ⟨g.lay, g.dep, by rw [PyData.weight]; exact l, g.its, g.sho⟩
theorem vars_cps4 : ∀ z ∈ vars, (∀ c ∈ z.cps.toList, c < 0x110000) ∧ z.cps.size ≤ 4 := by decide +kernel
theorem datas_len : ∀ ts : List Tm, (datas ts).length = ts.length
  | [] => by rw [datas]; rfl
  | t :: ts => by rw [datas, List.length_cons, List.length_cons, datas_len ts]
theorem name_cps {z : Str} (h : Name z) : ∀ c ∈ z.cps.toList, c < 0x110000 := fun c hc => by
  have all : ∀ c ∈ letters.cps.toList, c < 0x110000 := by decide
  exact all c (h.abc c hc)
mutual
theorem hgt_sz : ∀ t : Tm, t.hgt ≤ t.sz
  | .var x => by
    rw [Tm.hgt]
    exact Nat.zero_le _
  | .deed f ts => by
    have := hgts_szs ts
    rw [Tm.hgt, Tm.sz]
    omega
theorem hgts_szs : ∀ ts : List Tm, hgts ts ≤ szs ts
  | [] => by
    rw [hgts]
    exact Nat.zero_le _
  | t :: ts => by
    have a := hgt_sz t
    have b := hgts_szs ts
    rw [hgts, szs]
    exact Nat.max_le.mpr ⟨by omega, by omega⟩
end
def Eqn.data (e : Eqn) : PyData := .tuple [e.l.data, e.r.data]
theorem EqV.dp {K : PySem.W.Frag} {H : Hp} {v : V} {e : Eqn} (h : EqV K H v e) : Dp K H v e.data := by
  obtain ⟨a, u1, u2, rfl, s, t1, t2⟩ := h
  exact .tup s (.cons (TmV.dp t1) (.cons (TmV.dp t2) .nil))
end K11
end
section
namespace K11
open PySem PySem.Spec PyProof.Rows L2 Evl RZ Dw M20
section
variable {P : Program} {w : World} {K : PySem.W.Frag} {mg : Str → Option Value} {base : Heap} {σ : L2.St} {H : Hp}
end
end K11
end
section
namespace K11
open PySem PySem.Spec PyProof.Rows L2 Evl RZ Dw M20
def RowsV (K : PySem.W.Frag) (H : Hp) (l : Addr) (rows : List (List Nat)) : Prop := ∃ us, H l = some (.lst us) ∧ Paired (Nats K H) us rows
theorem nats_et {K : PySem.W.Frag} {H H' : Hp} (e : ET K H H') {us : List V} {rows : List (List Nat)} (h : Paired (Nats K H) us rows) : Paired (Nats K H') us rows := paired_imp (fun _ _ ⟨a, q, s⟩ => ⟨a, q, e _ _ s⟩) h
theorem paired_snoc {α β : Type} {R : α → β → Prop} : ∀ {xs : List α} {ys : List β} {x : α} {y : β}, Paired R xs ys → R x y → Paired R (xs ++ [x]) (ys ++ [y])
  | [], [], _, _, .nil, h => .cons h .nil
  | _ :: _, _ :: _, _, _, .cons r p, h => .cons r (paired_snoc p h)
section
variable {P : Program} {w : World} {K : PySem.W.Frag} {mg : Str → Option Value} {base : Heap} {σ : L2.St} {H : Hp}
end
end K11
end
section
namespace K11
open PySem PySem.Spec PyProof.Rows L2 Evl RZ Dw M20
/-! ### repr of any thing, data of rows and of what is due -/
def Plain (v : V) : Prop := (∃ a, v = .ref a) ∨ v = .non ∨ ∃ b, v = .bl b
def dR (rows : List (List Nat)) : PyData := .list (rows.map dN)
section
variable {K : PySem.W.Frag} {σ : L2.St} {H : Hp} {te : TE}
theorem RowsV.ex {H' : Hp} {l : Addr} {rows : List (List Nat)} (e : Ex H H') (h : RowsV K H l rows) : RowsV K H' l rows := let ⟨us, a, b⟩ := h; ⟨us, e _ _ a, nats_et (Dw.Ex.et e) b⟩
theorem RowsV.dp {l : Addr} {rows : List (List Nat)} (h : RowsV K H l rows) : Dp K H (.ref l) (dR rows) := let ⟨us, a, b⟩ := h; .lst (sq_of a) (dps_paired (fun _ _ z => Nats.dp z) b)
def dDue : Option (Nat × List Nat) → PyData
  | none => .none
  | some (k, row) => .tuple [.int (k : Int), dN row]
theorem DueV.dp {v : V} : ∀ {x : Option (Nat × List Nat)}, DueV K H v x → Dp K H v (dDue x)
  | none, h => by
    replace h : v = .non := h
    subst h
    exact .non
  | some (k, row), h => by
    obtain ⟨a, b, rfl, s1, s2⟩ := h
    exact .tup s1 (.cons (.int _) (.cons (Nats.dp ⟨b, rfl, s2⟩) .nil))
theorem DueV.ex {H' : Hp} {v : V} (e : Ex H H') : ∀ {x : Option (Nat × List Nat)}, DueV K H v x → DueV K H' v x
  | none, h => h
  | some (k, row), h => by
    obtain ⟨a, b, rfl, s1, s2⟩ := h
    exact ⟨a, b, rfl, ex_t e s1, ex_t e s2⟩
end
theorem DueV.plain {K : PySem.W.Frag} {H : Hp} {v : V} : ∀ {x : Option (Nat × List Nat)}, DueV K H v x → Plain v
  | none, h => .inr (.inl h)
  | some (k, row), h => by
    obtain ⟨a, b, rfl, _⟩ := h
    exact .inl ⟨a, rfl⟩
end K11
end
section
namespace K11
open PySem PySem.Spec PyProof.Rows L2 Evl RZ Dw M20
section
variable {K : PySem.W.Frag} {σ : L2.St} {H : Hp} {te ta tb : TE}
end
end K11
end
section
namespace K11
open PySem PySem.Spec PyProof.Rows L2 Evl RZ Dw M20
/-! ### terms with their variables exchanged -/
mutual
def Tm.put (f : Str → Tm) : Tm → Tm
  | .var x => f x
  | .deed g ts => .deed g (puts f ts)
def puts (f : Str → Tm) : List Tm → List Tm
  | [] => []
  | t :: ts => t.put f :: puts f ts
end
def rn (w : Str → Str) : Str → Tm := fun x => .var (w x)
/-! ### the order in which letters first come -/
def posS : List Str → Str → Nat
  | [], _ => 0
  | k :: r, x => if x = k then 0 else posS r x + 1
/-! ### equations by other letters -/
def Eqn.ls (e : Eqn) : List Str := e.l.ls ++ e.r.ls
def Eqn.names (e : Eqn) : List Str := firsts e.ls
/-- back from the letters: what is the same by its letters is led over by the names, one by one -/
def back (ks : List Str) (z : Str) : Str := ks.getD (posS vars z) "u"
end K11
end
section
namespace K11
open PySem PySem.Spec PyProof.Rows L2 Evl RZ Dw M20
/-! ### texts of terms -/
def cl (s : Str) : List Nat := s.cps.toList
theorem cl_app (a b : Str) : cl (a ++ b) = cl a ++ cl b := Array.toList_append
def isL (c : Nat) : Prop := 97 ≤ c ∧ c ≤ 122
/-! ### the lesser one of an equation and the one turned about -/
end K11
end
section
namespace K11
open PySem PySem.Spec PyProof.Rows L2 Evl RZ Dw M20
/-! ### ways to lead letters, one to one -/
/-- by the way zs the i-th name is led to the i-th one -/
def wz (ks zs : List Str) (x : Str) : Str := zs.getD (posS ks x) "u"
/-! ### the same data -/
end K11
end
section
namespace K11
open PySem PySem.Spec PyProof.Rows L2 Evl RZ Dw M20
/-- a dict by which letters are exchanged -/
def PutD (K : PySem.W.Frag) (H : Hp) (v : V) (f : Str → Tm) (xs : List Str) : Prop := ∃ (d : Addr) (kvs : List (Key × V)), v = .ref d ∧ H d = some (.dK kvs) ∧ ∀ x ∈ xs, (valV kvs (.inr x) = none ∧ f x = .var x) ∨ ∃ u, valV kvs (.inr x) = some u ∧ TmV K H (f x) u
theorem PutD.ex {K : PySem.W.Frag} {H H' : Hp} {v : V} {f : Str → Tm} {xs : List Str} (e : Ex H H') (h : PutD K H v f xs) : PutD K H' v f xs := by
  obtain ⟨d, kvs, q, hd, all⟩ := h
  refine ⟨d, kvs, q, e _ _ hd, fun x hx => ?_⟩
  rcases all x hx with z | ⟨u, a, b⟩
  · exact .inl z
  · exact .inr ⟨u, a, b.et (Dw.Ex.et e)⟩
theorem PutD.sub {K : PySem.W.Frag} {H : Hp} {v : V} {f : Str → Tm} {xs ys : List Str} (s : ∀ y ∈ ys, y ∈ xs) (h : PutD K H v f xs) : PutD K H v f ys := let ⟨d, kvs, q, hd, all⟩ := h; ⟨d, kvs, q, hd, fun x hx => all x (s x hx)⟩
section
variable {P : Program} {w : World} {K : PySem.W.Frag} {mg : Str → Option Value} {base : Heap} {σ : L2.St} {H : Hp}
end
end K11
end
section
namespace K11
open PySem PySem.Spec PyProof.Rows L2 Evl RZ Dw M20
/-! ### how long texts are -/
theorem len_cl (s : Str) : s.length = (cl s).length := (Array.length_toList).symm
theorem len_app (a b : Str) : (a ++ b).length = a.length + b.length := by rw [len_cl, len_cl, len_cl, cl_app, List.length_append]
section
variable {P : Program} {w : World} {K : PySem.W.Frag} {mg : Str → Option Value} {base : Heap} {σ : L2.St} {H : Hp}
end
end K11
end
section
namespace K11
open PySem PySem.Spec PyProof.Rows L2 Evl RZ Dw M20
section
variable {P : Program} {w : World} {K : PySem.W.Frag} {mg : Str → Option Value} {base : Heap} {σ : L2.St} {H : Hp} {va : Addr}
end
end K11
end
section
namespace K11
open PySem PySem.Spec PyProof.Rows L2 Evl RZ Dw M20
section
variable {P : Program} {w : World} {K : PySem.W.Frag} {mg : Str → Option Value} {base : Heap} {σ : L2.St} {H : Hp} {va : Addr}
def PairArg (K : PySem.W.Frag) (p : List (Str × Nat) × Eqn) (vs : List V) (H : Hp) : Prop := (∃ u v, vs = [u, v] ∧ FSig K H u p.1 ∧ EqV K H v p.2) ∧ SigOk p.1 ∧ EqOk p.1 p.2
end
end K11
end
section
namespace K11
open PySem PySem.Spec PyProof.Rows L2 Evl RZ Dw M20
section
variable {P : Program} {w : World} {K : PySem.W.Frag} {mg : Str → Option Value} {base : Heap} {σ : L2.St} {H : Hp}
/-! ### come -/
end
end K11
end
section
namespace K11
open PySem PySem.Spec PyProof.Rows L2 Evl RZ Dw M20
section
variable {P : Program} {w : World} {K : PySem.W.Frag} {mg : Str → Option Value} {base : Heap} {σ : L2.St} {H : Hp}
/-- sep.join(a new list of texts) -/
theorem ev_join {to te : TE} {a : Str} {ys : List Str} (ho : Ev to σ H (.str a)) (h : EvL te σ H (ys.map V.str)) (hl : (ys.map (·.length)).sum + ys.length * a.length ≤ 16777216) : Ev (tM1 (fun x xs H Q => ∃ a p, ∃ ys : List Str, x = .str a ∧ xs = [.ref p] ∧ (SqL K H p (ys.map V.str) ∨ SqT K H p (ys.map V.str)) ∧
      (ys.map (·.length)).sum + ys.length * a.length ≤ 16777216 ∧ Q (.str (Txt.join a ys)) H) to te) σ H (.str (Str.join a ys)) := fun H1 e Q q =>
  ho H1 e _ fun H2 e2 => ⟨⟨a, rfl⟩, h H2 (e.trans e2) _ fun p H3 np e3 hp => ⟨a, p, ys, rfl, rfl, .inl (sq_of hp), hl, by rw [TL.join_eq]; exact q H3 (e2.trans e3)⟩⟩
end
end K11
end
section
namespace K11
open PySem PySem.Spec PyProof.Rows L2 Evl RZ Dw M20
theorem val_mergeG : ∀ (kvs acc : List (Key × V)) (k : Key) (v : V), (kvs.map (·.1)).Nodup → ((k, v) ∈ kvs ∨ (k ∉ kvs.map (·.1) ∧ valV acc k = some v)) → valV (mergeK acc kvs) k = some v
  | [], acc, k, v, _, h => by
    rcases h with h | h
    · cases h
    · exact h.2
  | d :: r, acc, k, v, nd, h => by
    obtain ⟨no, nd2⟩ := List.nodup_cons.mp (show (d.1 :: r.map (·.1)).Nodup from nd)
    show valV (mergeK (putK acc d.1 d.2) r) k = some v
    refine val_mergeG r _ k v nd2 ?_
    rcases h with h | ⟨h1, h2⟩
    · rcases List.mem_cons.mp h with e | e
      · subst e
        refine .inr ⟨no, ?_⟩
        rw [valV_put, if_pos rfl]
      · exact .inl e
    · have h1' : k ∉ d.1 :: r.map (·.1) := h1
      refine .inr ⟨fun z => h1' (List.mem_cons_of_mem _ z), ?_⟩
      rw [valV_put, if_neg (fun (e : k = d.1) => h1' (by rw [e]; exact List.mem_cons_self ..))]
      exact h2
theorem nodup_inr : ∀ {ks : List Str}, ks.Nodup → (ks.map (Sum.inr : Str → Key)).Nodup
  | [], _ => List.nodup_nil
  | k :: r, h => by
    obtain ⟨no, nd⟩ := List.nodup_cons.mp h
    refine List.nodup_cons.mpr ⟨fun z => ?_, nodup_inr nd⟩
    obtain ⟨y, hy, e⟩ := List.mem_map.mp z
    exact no (Sum.inr.inj e ▸ hy)
section
variable {P : Program} {w : World} {K : PySem.W.Frag} {mg : Str → Option Value} {base : Heap} {σ : L2.St} {H : Hp}
/-- what dict(pairs of a name and a letter) is -/
def PairsV (K : PySem.W.Frag) (H : Hp) (D : Addr) (ks : List Str) (g : Str → Tm) : Prop := ∃ (ps : List Addr) (kvs : List (Key × V)), H D = some (.lst (ps.map V.ref)) ∧ Paired (fun p kv => SqT K H p [kV kv.1, kv.2]) ps kvs ∧ kvs.map (·.1) = ks.map Sum.inr ∧ ∀ kv ∈ kvs, ∀ x, kv.1 = Sum.inr x → TmV K H (g x) kv.2
theorem PairsV.put {D : Addr} {ks : List Str} {g : Str → Tm} (nd : ks.Nodup) {kvs : List (Key × V)} (keys : kvs.map (·.1) = ks.map Sum.inr) {H' : Hp} (all : ∀ kv ∈ kvs, ∀ x, kv.1 = Sum.inr x → TmV K H' (g x) kv.2) (h : H' D = some (.dK (mergeK [] kvs))) : PutD K H' (.ref D) g ks := by
  have ndk : (kvs.map (·.1)).Nodup := by
    rw [keys]
    exact nodup_inr nd
  refine ⟨D, _, rfl, h, fun x hx => .inr ?_⟩
  have m : (Sum.inr x : Key) ∈ kvs.map (·.1) := by
    rw [keys]
    exact List.mem_map_of_mem hx
  obtain ⟨⟨k, u⟩, hk, ek⟩ := List.mem_map.mp m
  have ek' : k = Sum.inr x := ek
  subst ek'
  exact ⟨u, val_mergeG kvs [] _ u ndk (.inl hk), all _ hk x rfl⟩
end
end K11
end
section
namespace K11
open PySem PySem.Spec PyProof.Rows L2 Evl RZ Dw M20
section
variable {P : Program} {w : World} {K : PySem.W.Frag} {mg : Str → Option Value} {base : Heap} {σ : L2.St} {H : Hp}
end
end K11
end
section
namespace K11
open PySem PySem.Spec PyProof.Rows L2 Evl RZ Dw M20
section
variable {P : Program} {w : World} {K : PySem.W.Frag} {mg : Str → Option Value} {base : Heap} {σ : L2.St} {H : Hp}
end
end K11
end
section
namespace K11
open PySem PySem.Spec PyProof.Rows L2 Evl RZ Dw M20 LiI
theorem val_none : ∀ {kvs : List (Key × V)} {k : Key}, k ∉ kvs.map (·.1) → valV kvs k = none
  | [], _, _ => rfl
  | p :: r, k, h => by
    have h' : k ∉ p.1 :: r.map (·.1) := h
    rw [valV_neg (fun e => h' (by rw [e]; exact List.mem_cons_self ..))]
    exact val_none fun z => h' (List.mem_cons_of_mem _ z)
theorem merge_app : ∀ (kvs acc : List (Key × V)), ((acc ++ kvs).map (·.1)).Nodup → mergeK acc kvs = acc ++ kvs
  | [], acc, _ => by
    rw [List.append_nil]
    rfl
  | p :: r, acc, nd => by
    have no : p.1 ∉ acc.map (·.1) := by
      rw [List.map_append] at nd
      intro z
      exact (List.nodup_append.mp nd).2.2 p.1 z p.1 (by simp) rfl
    show mergeK (putK acc p.1 p.2) r = _
    rw [putK_new p.2 (val_none no), merge_app r _ (by rw [List.append_assoc]; exact nd), List.append_assoc]
    rfl
theorem merge_nil {kvs : List (Key × V)} (nd : (kvs.map (·.1)).Nodup) : mergeK [] kvs = kvs := merge_app kvs [] nd
section
variable {P : Program} {w : World} {K : PySem.W.Frag} {mg : Str → Option Value} {base : Heap} {σ : L2.St} {H : Hp}
/-- a way as a dict -/
def WayD (K : PySem.W.Frag) (H : Hp) (d : Addr) (ks zs : List Str) : Prop := ∃ kvs : List (Key × V), H d = some (.dK kvs) ∧ kvs.map (·.1) = ks.map Sum.inr ∧ ∀ kv ∈ kvs, ∀ x, kv.1 = Sum.inr x → TmV K H (.var (wz ks zs x)) kv.2
theorem WayD.ex {H H' : Hp} {d : Addr} {ks zs : List Str} (e : Ex H H') (h : WayD K H d ks zs) : WayD K H' d ks zs := let ⟨kvs, a, b, c⟩ := h; ⟨kvs, e _ _ a, b, fun kv hk x ex => (c kv hk x ex).et (Dw.Ex.et e)⟩
theorem WayD.upd {H : Hp} {d l : Addr} {ks zs : List Str} {xs ys : List V} (hl : H l = some (.lst xs)) (h : WayD K H d ks zs) : WayD K (upd H l (.lst ys)) d ks zs := by
  obtain ⟨kvs, a, b, c⟩ := h
  refine ⟨kvs, ?_, b, fun kv hk x ex => (c kv hk x ex).et (ET.refl.upd hl)⟩
  rw [upd_ne (fun z => by rw [z, hl] at a; cases a)]
  exact a
theorem WayD.put {H : Hp} {d : Addr} {ks zs : List Str} (nd : ks.Nodup) (h : WayD K H d ks zs) : PutD K H (.ref d) (rn (wz ks zs)) ks := by
  obtain ⟨kvs, a, b, c⟩ := h
  have ndk : (kvs.map (·.1)).Nodup := by
    rw [b]
    exact nodup_inr nd
  refine PairsV.put nd b c ?_
  rw [merge_nil ndk]
  exact a
end
end K11
end
section
namespace K11
open PySem PySem.Spec PyProof.Rows L2 Evl RZ Dw M20
section
variable {P : Program} {w : World} {K : PySem.W.Frag} {mg : Str → Option Value} {base : Heap} {σ : L2.St} {H : Hp}
end
end K11
end
section
namespace K11
open PySem PySem.Spec PyProof.Rows L2 Evl RZ Dw M20
theorem nd_len : ∀ {xs ys : List Str}, xs.Nodup → (∀ x ∈ xs, x ∈ ys) → xs.length ≤ ys.length
  | [], _, _, _ => Nat.zero_le _
  | x :: xs, ys, nd, h => by
    obtain ⟨no, nd2⟩ := List.nodup_cons.mp nd
    have m := h x (List.mem_cons_self ..)
    have a := nd_len (ys := ys.erase x) nd2 fun y hy => (List.mem_erase_of_ne (fun (e : y = x) => no (e ▸ hy))).mpr (h y (List.mem_cons_of_mem _ hy))
    have b := List.length_erase_of_mem m
    have c := List.length_pos_of_mem m
    rw [List.length_cons]
    omega
/-! ### parts by paths -/
def Tm.kids : Tm → List Tm
  | .var _ => []
  | .deed _ ts => ts
def sub : List Nat → Tm → Option Tm
  | [], t => some t
  | k :: p, t => t.kids[k]?.bind (sub p)
section
variable {P : Program} {w : World} {K : PySem.W.Frag} {mg : Str → Option Value} {base : Heap} {σ : L2.St} {H : Hp}
def TOk (p : List (Str × Nat) × Tm) : Prop := SigOk p.1 ∧ p.2.ok p.1 ∧ p.2.sz ≤ 60
end
end K11
end
section
namespace K11
open PySem PySem.Spec PyProof.Rows L2 Evl RZ Dw M20
theorem TmsV.take {K : PySem.W.Frag} {H : Hp} : ∀ {ts : List Tm} {us : List V} (n : Nat), TmsV K H ts us → TmsV K H (ts.take n) (us.take n)
  | [], us, n, h => by
    rw [TmsV] at h
    subst h
    rw [List.take_nil, List.take_nil, TmsV]
  | t :: ts, us, n, h => by
    rw [TmsV] at h
    obtain ⟨v, ws, rfl, a, b⟩ := h
    cases n with
    | zero =>
      rw [List.take_zero, List.take_zero, TmsV]
    | succ n =>
      rw [List.take_succ_cons, List.take_succ_cons, TmsV]
      exact ⟨v, _, rfl, a, b.take n⟩
theorem TmsV.drop {K : PySem.W.Frag} {H : Hp} : ∀ {ts : List Tm} {us : List V} (n : Nat), TmsV K H ts us → TmsV K H (ts.drop n) (us.drop n)
  | [], us, n, h => by
    rw [TmsV] at h
    subst h
    rw [List.drop_nil, List.drop_nil, TmsV]
  | t :: ts, us, n, h => by
    have h0 := h
    rw [TmsV] at h
    obtain ⟨v, ws, rfl, a, b⟩ := h
    cases n with
    | zero => exact h0
    | succ n =>
      rw [List.drop_succ_cons, List.drop_succ_cons]
      exact b.drop n
section
variable {P : Program} {w : World} {K : PySem.W.Frag} {mg : Str → Option Value} {base : Heap} {σ : L2.St} {H : Hp}
theorem do_asg {i : Nat} {te : TE} {D : Ends} (h : te σ H fun x H1 => D.nx (σ.set i (some x)) H1) : tAsg te (gName i) D σ H := h
/-- the slices of a tuple, told by what they hold -/
theorem cut_to {xs : List V} {k : Nat} (h : k ≤ xs.length) : cutV xs none (some (k : Int)) = xs.take k := by
  unfold cutV
  rw [HT.sIx_none, show HT.sIx xs.length xs.length (some (k : Int)) = min k xs.length from HT.sIx_nat _ _ k, Nat.min_eq_left h, Nat.sub_zero, List.drop_zero]
theorem cut_from {xs : List V} {k : Nat} (h : k ≤ xs.length) : cutV xs (some (k : Int)) none = xs.drop k := by
  unfold cutV
  rw [show HT.sIx xs.length 0 (some (k : Int)) = min k xs.length from HT.sIx_nat _ _ k, HT.sIx_none, Nat.min_eq_left h]
  exact List.take_of_length_le (by rw [List.length_drop]; exact Nat.le_refl _)
def TupV (K : PySem.W.Frag) (H : Hp) (v : V) (xs : List V) : Prop := ∃ a, v = .ref a ∧ SqT K H a xs
theorem TupV.ex {H H' : Hp} {v : V} {xs : List V} (e : Ex H H') (h : TupV K H v xs) : TupV K H' v xs := let ⟨a, q, s⟩ := h; ⟨a, q, ex_t e s⟩
theorem ep_cutTo {ta tb : TE} {a : Addr} {xs : List V} {k : Nat} (h : Ev ta σ H (.ref a)) (hx : SqT K H a xs) (hb : Ev tb σ H (vi k)) (hk : k ≤ xs.length) : EvP (tSl (rSlA K) ta tNoPart (tPart tb)) σ H (fun v H' => TupV K H' v (xs.take k)) := fun H1 e1 Q q =>
  h H1 e1 _ fun H2 e2 => hb H2 (e1.trans e2) _ fun H3 e3 => ⟨(k : Int), rfl, a, xs, rfl, ex_t ((e1.trans e2).trans e3) hx, fun z => by
    have z2 : HT.sIx xs.length xs.length (some (k : Int)) = xs.length := z.2
    rw [show HT.sIx xs.length xs.length (some (k : Int)) = min k xs.length from HT.sIx_nat _ _ k, Nat.min_eq_left hk] at z2
    refine q _ H3 (e2.trans e3) ⟨a, rfl, ?_⟩
    rw [z2, List.take_length]
    exact ex_t ((e1.trans e2).trans e3) hx, fun _ p np => by
    rw [cut_to hk]
    exact q _ _ ((e2.trans e3).trans (Ex.new np)) ⟨p, rfl, st_of upd_same⟩⟩
theorem ep_cat {ta tb : TE} {xs ys : List V} (ha : EvP ta σ H (fun v H' => TupV K H' v xs)) (hb : EvP tb σ H (fun v H' => TupV K H' v ys)) (hl : xs.length + ys.length ≤ 100000) : EvP (tOp (rCatA K) ta tb) σ H (fun v H' => TupV K H' v (xs ++ ys)) := fun H1 e1 Q q =>
  ha H1 e1 _ fun v H2 e2 hv => hb H2 (e1.trans e2) _ fun u H3 e3 hu => by
    obtain ⟨a, rfl, sa⟩ := hv.ex e3
    obtain ⟨b, rfl, sb⟩ := hu
    refine ⟨a, b, xs, ys, rfl, rfl, sa, sb, sz_of hl, fun z => ?_, fun _ z => ?_, fun _ _ p np => ?_⟩
    · subst z
      exact q _ H3 (e2.trans e3) ⟨b, rfl, sb⟩
    · subst z
      rw [List.append_nil] at q
      exact q _ H3 (e2.trans e3) ⟨a, rfl, sa⟩
    · exact q _ _ ((e2.trans e3).trans (Ex.new np)) ⟨p, rfl, st_of upd_same⟩
theorem ep_tup1 {ta : TE} {x : V} (h : Ev ta σ H x) : EvP (tTup (tCons ta tNil)) σ H (fun v H' => TupV K H' v [x]) := fun H1 e1 Q q => eu_tup (ea_cons h ea_nil) (by show 1 ≤ 100000; decide) H1 e1 _ fun p H2 np e2 hp => q _ H2 e2 ⟨p, rfl, st_of hp⟩
end
end K11
end
section
namespace K11
open PySem PySem.Spec PyProof.Rows L2 Evl RZ Dw M20
/-! ### all paths -/
mutual
def Tm.pths : Tm → List (List Nat)
  | .var _ => [[]]
  | .deed _ ts => [] :: pthss 0 ts
def pthss : Nat → List Tm → List (List Nat)
  | _, [] => []
  | k, t :: ts => t.pths.map (k :: ·) ++ pthss (k + 1) ts
end
section
variable {P : Program} {w : World} {K : PySem.W.Frag} {mg : Str → Option Value} {base : Heap} {σ : L2.St} {H : Hp}
/-- something on the stack: a path and a term -/
def PqV (K : PySem.W.Frag) (H : Hp) (n : Nat) (u : V) (q : List Nat × Tm) : Prop := ∃ (a pa : Addr) (v : V), u = .ref a ∧ SqT K H a [.ref pa, v] ∧ SqT K H pa (q.1.map vi) ∧ q.1.length + q.2.sz ≤ n ∧ TmV K H q.2 v
theorem PqV.et {H H' : Hp} {n : Nat} {u : V} {q : List Nat × Tm} (e : ET K H H') (h : PqV K H n u q) : PqV K H' n u q := let ⟨a, pa, v, z, s, p, l, tv⟩ := h; ⟨a, pa, v, z, e _ _ s, e _ _ p, l, tv.et e⟩
def PathsV (K : PySem.W.Frag) (H : Hp) (l : Addr) (ps : List (List Nat)) : Prop := ∃ as : List Addr, H l = some (.lst (as.map V.ref)) ∧ Paired (fun a p => SqT K H a (p.map vi)) as ps
theorem PathsV.ex {H H' : Hp} {l : Addr} {ps : List (List Nat)} (e : Ex H H') (h : PathsV K H l ps) : PathsV K H' l ps := let ⟨as, a, b⟩ := h; ⟨as, e _ _ a, paired_imp (fun _ _ z => ex_t e z) b⟩
mutual
theorem pths_len : ∀ t : Tm, t.pths.length = t.sz
  | .var x => by rw [Tm.pths, Tm.sz]; rfl
  | .deed f ts => by rw [Tm.pths, Tm.sz, List.length_cons, pthss_len 0 ts, Nat.add_comm]
theorem pthss_len : ∀ (k : Nat) (ts : List Tm), (pthss k ts).length = szs ts
  | _, [] => by rw [pthss, szs]; rfl
  | k, t :: ts => by rw [pthss, szs, List.length_append, List.length_map, pths_len t, pthss_len (k + 1) ts]
end
end
end K11
end
section
namespace K11
open PySem PySem.Spec PyProof.Rows L2 Evl RZ Dw M20
section
variable {P : Program} {w : World} {K : PySem.W.Frag} {mg : Str → Option Value} {base : Heap} {σ : L2.St} {H : Hp}
/-! ### how many parts a term has when it is put in -/
/-- a dict of numbers -/
def NumD (H : Hp) (v : V) (n : Str → Nat) (xs : List Str) : Prop := ∃ (d : Addr) (kvs : List (Key × V)), v = .ref d ∧ H d = some (.dK kvs) ∧ ∀ x ∈ xs, (valV kvs (.inr x)).getD (vi 1) = vi (n x)
theorem NumD.ex {H H' : Hp} {v : V} {n : Str → Nat} {xs : List Str} (e : Ex H H') (h : NumD H v n xs) : NumD H' v n xs := let ⟨d, kvs, q, hd, all⟩ := h; ⟨d, kvs, q, e _ _ hd, all⟩
end
end K11
end
section
namespace K11
open PySem PySem.Spec PyProof.Rows L2 Evl RZ Dw M20
/-! ### puttings -/
def PutV (K : PySem.W.Frag) (H : Hp) (v : V) (ks : List Str) (g : Str → Tm) : Prop := ∃ (d : Addr) (kvs : List (Key × V)), v = .ref d ∧ H d = some (.dK kvs) ∧ kvs.map (·.1) = ks.map Sum.inr ∧ ∀ kv ∈ kvs, ∀ x, kv.1 = Sum.inr x → TmV K H (g x) kv.2
theorem PutV.ex {K : PySem.W.Frag} {H H' : Hp} {v : V} {ks : List Str} {g : Str → Tm} (e : Ex H H') (h : PutV K H v ks g) : PutV K H' v ks g := let ⟨d, kvs, q, a, b, c⟩ := h; ⟨d, kvs, q, e _ _ a, b, fun kv hk x ex => (c kv hk x ex).et (Dw.Ex.et e)⟩
theorem val_mem : ∀ {kvs : List (Key × V)} {k : Key} {v : V}, (kvs.map (·.1)).Nodup → (k, v) ∈ kvs → valV kvs k = some v
  | [], _, _, _, h => nomatch h
  | p :: r, k, v, nd, h => by
    obtain ⟨no, nd2⟩ := List.nodup_cons.mp (show (p.1 :: r.map (·.1)).Nodup from nd)
    rcases List.mem_cons.mp h with e | e
    · rw [← e]
      exact valV_pos rfl
    · rw [valV_neg (fun z => no (by rw [z]; exact List.mem_map_of_mem e))]
      exact val_mem nd2 e
theorem PutV.val {K : PySem.W.Frag} {H : Hp} {kvs : List (Key × V)} {ks : List Str} {g : Str → Tm} (nd : ks.Nodup) (b : kvs.map (·.1) = ks.map Sum.inr) (c : ∀ kv ∈ kvs, ∀ x, kv.1 = Sum.inr x → TmV K H (g x) kv.2) (x : Str) : (x ∈ ks → ∃ u, valV kvs (.inr x) = some u ∧ TmV K H (g x) u) ∧ (x ∉ ks → valV kvs (.inr x) = none) := by
  have ndk : (kvs.map (·.1)).Nodup := by
    rw [b]
    exact nodup_inr nd
  refine ⟨fun hx => ?_, fun hx => val_none ?_⟩
  · have m : (Sum.inr x : Key) ∈ kvs.map (·.1) := by
      rw [b]
      exact List.mem_map_of_mem hx
    obtain ⟨⟨k, u⟩, hk, ek⟩ := List.mem_map.mp m
    have ek' : k = Sum.inr x := ek
    subst ek'
    exact ⟨u, val_mem ndk hk, c _ hk x rfl⟩
  · rw [b]
    intro z
    obtain ⟨y, hy, e⟩ := List.mem_map.mp z
    exact hx (Sum.inr.inj e ▸ hy)
/-! ### while a dict is walked -/
section
variable {P : Program} {w : World} {K : PySem.W.Frag} {mg : Str → Option Value} {base : Heap} {σ : L2.St} {H : Hp} {va : Addr}
end
end K11
end
section
namespace K11
open PySem PySem.Spec PyProof.Rows L2 Evl RZ Dw M20
/-! ### matching -/
theorem puts_iff {h : Str → Tm} : ∀ {ts us : List Tm}, ts.length = us.length → (puts h ts = us ↔ ∀ q ∈ ts.zip us, q.1.put h = q.2)
  | [], [], _ => by
    rw [puts]
    exact ⟨fun _ q z => (nomatch z), fun _ => rfl⟩
  | [], _ :: _, l => by cases l
  | _ :: _, [], l => by cases l
  | t :: ts, u :: us, l => by
    rw [puts, List.zip_cons_cons]
    have ih := puts_iff (h := h) (ts := ts) (us := us) (Nat.succ.inj l)
    constructor
    · intro e q hq
      obtain ⟨e1, e2⟩ := List.cons.inj e
      rcases List.mem_cons.mp hq with z | z
      · rw [z]
        exact e1
      · exact ih.mp e2 q z
    · intro e
      rw [ih.mpr fun q hq => e q (List.mem_cons_of_mem _ hq)]
      have e1 : t.put h = u := e (t, u) (List.mem_cons_self ..)
      rw [e1]
theorem deed_iff {h : Str → Tm} {f : Str} {ts us : List Tm} (l : ts.length = us.length) : (Tm.deed f ts).put h = .deed f us ↔ ∀ q ∈ ts.zip us, q.1.put h = q.2 := by
  rw [Tm.put, ← puts_iff l]
  constructor
  · intro e
    injection e
  · intro e
    rw [e]
theorem zip_ls {x : Str} : ∀ {ts us : List Tm}, ts.length = us.length → (x ∈ lss ts ↔ ∃ q ∈ ts.zip us, x ∈ q.1.ls)
  | [], [], _ => by
    rw [lss]
    exact ⟨fun z => (nomatch z), fun ⟨q, z, _⟩ => (nomatch z)⟩
  | [], _ :: _, l => by cases l
  | _ :: _, [], l => by cases l
  | t :: ts, u :: us, l => by
    rw [lss, List.zip_cons_cons, List.mem_append, zip_ls (Nat.succ.inj l)]
    constructor
    · rintro (h | ⟨q, hq, h⟩)
      · exact ⟨(t, u), List.mem_cons_self .., h⟩
      · exact ⟨q, List.mem_cons_of_mem _ hq, h⟩
    · rintro ⟨q, hq, h⟩
      rcases List.mem_cons.mp hq with z | z
      · rw [z] at h
        exact .inl h
      · exact .inr ⟨q, z, h⟩
theorem oks_mem {sg : List (Str × Nat)} : ∀ {ts : List Tm}, oks sg ts → ∀ t ∈ ts, t.ok sg
  | [], _, t, h => nomatch h
  | u :: ts, o, t, h => by
    rw [oks] at o
    rcases List.mem_cons.mp h with z | z
    · rw [z]
      exact o.1
    · exact oks_mem o.2 t z
theorem hgts_mem : ∀ {ts : List Tm}, ∀ t ∈ ts, t.hgt ≤ hgts ts
  | [], t, h => nomatch h
  | u :: ts, t, h => by
    rw [hgts]
    rcases List.mem_cons.mp h with z | z
    · rw [z]
      exact Nat.le_max_left _ _
    · exact Nat.le_trans (hgts_mem t z) (Nat.le_max_right _ _)
/-- what is still to be matched is well -/
structure MOk (sg : List (Str × Nat)) (q : Tm × Tm) : Prop where
  o1 : q.1.ok sg
  o2 : q.2.ok sg
  low : q.2.hgt ≤ 29
structure FInv (sg : List (Str × Nat)) (p t : Tm) (S : List (Tm × Tm)) (ks : List Str) (g : Str → Tm) : Prop where
  iff : ∀ f, p.put f = t ↔ ((∀ x ∈ ks, f x = g x) ∧ ∀ q ∈ S, q.1.put f = q.2)
  ls : ∀ x, x ∈ p.ls ↔ (x ∈ ks ∨ ∃ q ∈ S, x ∈ q.1.ls)
  nd : ks.Nodup
  sub : ∀ x ∈ ks, x ∈ vars
  ok : ∀ q ∈ S, MOk sg q
  gok : ∀ x ∈ ks, (g x).ok sg ∧ (g x).hgt ≤ 29
theorem FInv.start {sg : List (Str × Nat)} {p t : Tm} (o : MOk sg (p, t)) : FInv sg p t [(p, t)] [] Tm.var :=
  ⟨fun f => ⟨fun h => ⟨fun x hx => (nomatch hx), fun q hq => by rw [List.mem_singleton.mp hq]; exact h⟩, fun h => h.2 (p, t) (List.mem_singleton.mpr rfl)⟩, fun x => ⟨fun h => .inr ⟨(p, t), List.mem_singleton.mpr rfl, h⟩, fun h => by
    rcases h with z | ⟨q, hq, z⟩
    · cases z
    · rw [List.mem_singleton.mp hq] at z; exact z⟩, List.nodup_nil, fun x hx => (nomatch hx), fun q hq => by rw [List.mem_singleton.mp hq]; exact o, fun x hx => (nomatch hx)⟩
theorem snoc_all {α : Type} {P : α → Prop} {b : List α} {z : α} : (∀ q ∈ b ++ [z], P q) ↔ (∀ q ∈ b, P q) ∧ P z := by
  constructor
  · intro h
    exact ⟨fun q hq => h q (List.mem_append_left _ hq), h z (List.mem_append_right _ (List.mem_singleton.mpr rfl))⟩
  · rintro ⟨h1, h2⟩ q hq
    rcases List.mem_append.mp hq with y | y
    · exact h1 q y
    · rw [List.mem_singleton.mp y]
      exact h2
theorem snoc_ex {α : Type} {P : α → Prop} {b : List α} {z : α} : (∃ q ∈ b ++ [z], P q) ↔ (∃ q ∈ b, P q) ∨ P z := by
  constructor
  · rintro ⟨q, hq, h⟩
    rcases List.mem_append.mp hq with y | y
    · exact .inl ⟨q, y, h⟩
    · rw [List.mem_singleton.mp y] at h
      exact .inr h
  · rintro (⟨q, hq, h⟩ | h)
    · exact ⟨q, List.mem_append_left _ hq, h⟩
    · exact ⟨z, List.mem_append_right _ (List.mem_singleton.mpr rfl), h⟩
section
variable {sg : List (Str × Nat)} {p t b2 : Tm} {S : List (Tm × Tm)} {ks : List Str} {g : Str → Tm} {x : Str}
def ug (g : Str → Tm) (x : Str) (b : Tm) (y : Str) : Tm := if y = x then b else g y
theorem FInv.new (h : FInv sg p t (S ++ [(.var x, b2)]) ks g) (hx : x ∉ ks) : FInv sg p t S (ks ++ [x]) (ug g x b2) := by
  have m := h.ok (.var x, b2) (List.mem_append_right _ (List.mem_singleton.mpr rfl))
  have same : ∀ y ∈ ks, ug g x b2 y = g y := fun y hy => if_neg fun (e : y = x) => hx (e ▸ hy)
  have own : ug g x b2 x = b2 := if_pos rfl
  refine ⟨fun f => ?_, fun y => ?_, ?_, ?_, fun q hq => h.ok q (List.mem_append_left _ hq), ?_⟩
  · rw [h.iff f, snoc_all, snoc_all, own]
    constructor
    · rintro ⟨a, b, c⟩
      exact ⟨⟨fun y hy => by rw [a y hy, same y hy], c⟩, b⟩
    · rintro ⟨⟨a, c⟩, b⟩
      exact ⟨fun y hy => by rw [a y hy, same y hy], b, c⟩
  · rw [h.ls y, snoc_ex, List.mem_append, List.mem_singleton]
    have z : y ∈ (Tm.var x, b2).1.ls ↔ y = x := by
      show y ∈ (Tm.var x).ls ↔ y = x
      rw [Tm.ls, List.mem_singleton]
    rw [z]
    constructor
    · rintro (a | a | a)
      · exact .inl (.inl a)
      · exact .inr a
      · exact .inl (.inr a)
    · rintro ((a | a) | a)
      · exact .inl a
      · exact .inr (.inr a)
      · exact .inr (.inl a)
  · exact List.nodup_append.mpr ⟨h.nd, List.nodup_cons.mpr ⟨fun z => (nomatch z), List.nodup_nil⟩, fun a ha c hc e => hx (by rw [List.mem_singleton.mp hc] at e; exact e ▸ ha)⟩
  · intro y hy
    rcases List.mem_append.mp hy with z | z
    · exact h.sub y z
    · rw [List.mem_singleton.mp z]
      have o := m.o1
      show x ∈ vars
      rw [show (Tm.var x, b2).1 = Tm.var x from rfl, Tm.ok] at o
      exact o
  · intro y hy
    rcases List.mem_append.mp hy with z | z
    · rw [same y z]
      exact h.gok y z
    · rw [List.mem_singleton.mp z, own]
      exact ⟨m.o2, m.low⟩
theorem FInv.odd {a : Tm} (h : FInv sg p t (S ++ [(a, b2)]) ks g) (e : ∀ f, a.put f ≠ b2) : ∀ f, p.put f ≠ t := fun f z => e f (snoc_all.mp ((h.iff f).mp z).2).2
theorem sig_one (so : SigOk sg) {f : Str} {n m : Nat} (h1 : (f, n) ∈ sg) (h2 : (f, m) ∈ sg) : n = m := by
  have nd := so.nd
  clear so
  induction sg with
  | nil => cases h1
  | cons d r ih =>
    obtain ⟨no, nd2⟩ := List.nodup_cons.mp (show (d.1 :: r.map (·.1)).Nodup from nd)
    rcases List.mem_cons.mp h1 with a | a <;> rcases List.mem_cons.mp h2 with b | b
    · rw [← a] at b
      exact (Prod.mk.inj b).2.symm
    · exact absurd (by rw [← a]; exact List.mem_map_of_mem (f := (·.1)) b) no
    · exact absurd (by rw [← b]; exact List.mem_map_of_mem (f := (·.1)) a) no
    · exact ih a b nd2
/-- the parts of two deeds of one name -/
theorem FInv.deed (so : SigOk sg) {f : Str} {ts us : List Tm} (h : FInv sg p t (S ++ [(.deed f ts, .deed f us)]) ks g) : ts.length = us.length ∧ FInv sg p t (S ++ ts.zip us) ks g := by
  have m := h.ok (.deed f ts, .deed f us) (List.mem_append_right _ (List.mem_singleton.mpr rfl))
  have o1 : (Tm.deed f ts).ok sg := m.o1
  have o2 : (Tm.deed f us).ok sg := m.o2
  have lo : (Tm.deed f us).hgt ≤ 29 := m.low
  rw [Tm.ok] at o1 o2
  rw [Tm.hgt] at lo
  have l := sig_one so o1.1 o2.1
  refine ⟨l, fun f' => ?_, fun y => ?_, h.nd, h.sub, fun q hq => ?_, h.gok⟩
  · rw [h.iff f', snoc_all]
    have d : (Tm.deed f ts, Tm.deed f us).1.put f' = (Tm.deed f ts, Tm.deed f us).2 ↔ _ := deed_iff (h := f') (f := f) l
    rw [d]
    constructor
    · rintro ⟨a, b, c⟩
      refine ⟨a, fun q hq => ?_⟩
      rcases List.mem_append.mp hq with z | z
      · exact b q z
      · exact c q z
    · rintro ⟨a, b⟩
      exact ⟨a, fun q hq => b q (List.mem_append_left _ hq), fun q hq => b q (List.mem_append_right _ hq)⟩
  · rw [h.ls y, snoc_ex]
    have d : y ∈ (Tm.deed f ts, Tm.deed f us).1.ls ↔ ∃ q ∈ ts.zip us, y ∈ q.1.ls := by
      show y ∈ (Tm.deed f ts).ls ↔ _
      rw [Tm.ls]
      exact zip_ls l
    rw [d]
    constructor
    · rintro (a | ⟨q, hq, a⟩ | ⟨q, hq, a⟩)
      · exact .inl a
      · exact .inr ⟨q, List.mem_append_left _ hq, a⟩
      · exact .inr ⟨q, List.mem_append_right _ hq, a⟩
    · rintro (a | ⟨q, hq, a⟩)
      · exact .inl a
      · rcases List.mem_append.mp hq with z | z
        · exact .inr (.inl ⟨q, z, a⟩)
        · exact .inr (.inr ⟨q, z, a⟩)
  · rcases List.mem_append.mp hq with z | z
    · exact h.ok q (List.mem_append_left _ z)
    · obtain ⟨z1, z2⟩ := List.of_mem_zip (a := q.1) (b := q.2) (by exact z)
      have lo2 := hgts_mem q.2 z2
      exact ⟨oks_mem o1.2 _ z1, oks_mem o2.2 _ z2, by omega⟩
end
end K11
end
section
namespace K11
open PySem PySem.Spec PyProof.Rows L2 Evl RZ Dw M20
section
variable {P : Program} {w : World} {K : PySem.W.Frag} {mg : Str → Option Value} {base : Heap} {σ : L2.St} {H : Hp}
def PsV (K : PySem.W.Frag) (H : Hp) (u : V) (q : Tm × Tm) : Prop := ∃ (a : Addr) (x y : V), u = .ref a ∧ SqT K H a [x, y] ∧ TmV K H q.1 x ∧ TmV K H q.2 y
theorem PsV.et {H H' : Hp} {u : V} {q : Tm × Tm} (e : ET K H H') (h : PsV K H u q) : PsV K H' u q := let ⟨a, x, y, z, s, p, r⟩ := h; ⟨a, x, y, z, e _ _ s, p.et e, r.et e⟩
theorem do_test2 {r : R2} {ta tb : TE} {Q : Bool → Hp → Prop} (h : ta σ H fun x H1 => tb σ H1 fun y H2 => r x y H2 fun z H3 => ∃ k, z = .bl k ∧ Q k H3) : tTest (tOp r ta tb) σ H Q := h
end
end K11
end
section
namespace K11
open PySem PySem.Spec PyProof.Rows L2 Evl RZ Dw M20
section
variable {P : Program} {w : World} {K : PySem.W.Frag} {mg : Str → Option Value} {base : Heap} {σ : L2.St} {H : Hp}
end
end K11
end
section
namespace K11
open PySem PySem.Spec PyProof.Rows L2 Evl RZ Dw M20
section
variable {P : Program} {w : World} {K : PySem.W.Frag} {mg : Str → Option Value} {base : Heap} {σ : L2.St} {H : Hp}
end
end K11
end
section
namespace K11
open PySem PySem.Spec PyProof.Rows L2 Evl RZ Dw M20
section
variable {P : Program} {w : World} {K : PySem.W.Frag} {mg : Str → Option Value} {base : Heap} {σ : L2.St} {H : Hp}
end
end K11
end
section
namespace K11
open PySem PySem.Spec PyProof.Rows L2 Evl RZ Dw M20
end K11
end
section
namespace K11
open PySem PySem.Spec PyProof.Rows L2 Evl RZ Dw M20
section
variable {P : Program} {w : World} {K : PySem.W.Frag} {mg : Str → Option Value} {base : Heap} {σ : L2.St} {H : Hp}
end
end K11
end
section
namespace K11
open PySem PySem.Spec PyProof.Rows L2 Evl RZ Dw M20
/-- a dict of numbers by letters -/
def NumK (H : Hp) (v : V) (f : Str → Nat) (xs : List Str) : Prop := ∃ (d : Addr) (kvs : List (Key × V)), v = .ref d ∧ H d = some (.dK kvs) ∧ kvs.length ≤ 12 ∧ ∀ x ∈ xs, valV kvs (.inr x) = some (vi (f x))
theorem NumK.ex {H H' : Hp} {v : V} {f : Str → Nat} {xs : List Str} (e : Ex H H') (h : NumK H v f xs) : NumK H' v f xs := let ⟨d, kvs, q, a, l, b⟩ := h; ⟨d, kvs, q, e _ _ a, l, b⟩
theorem NumK.sub {H : Hp} {v : V} {f : Str → Nat} {xs ys : List Str} (h : NumK H v f xs) (s : ∀ y ∈ ys, y ∈ xs) : NumK H v f ys := let ⟨d, kvs, q, a, l, b⟩ := h; ⟨d, kvs, q, a, l, fun x hx => b x (s x hx)⟩
section
variable {P : Program} {w : World} {K : PySem.W.Frag} {mg : Str → Option Value} {base : Heap} {σ : L2.St} {H : Hp}
end
end K11
end
section
namespace K11
open PySem PySem.Spec PyProof.Rows L2 Evl RZ Dw M20
theorem merge_new : ∀ {kvs acc : List (Key × V)}, ((acc ++ kvs).map (·.1)).Nodup → mergeK acc kvs = acc ++ kvs
  | [], acc, _ => by
    rw [List.append_nil]
    rfl
  | p :: r, acc, nd => by
    show mergeK (putK acc p.1 p.2) r = acc ++ p :: r
    have no : valV acc p.1 = none := val_none fun z => by
      rw [List.map_append, List.nodup_append] at nd
      exact nd.2.2 _ z _ (List.mem_map.mpr ⟨p, List.mem_cons_self .., rfl⟩) rfl
    rw [putK_new _ no, merge_new (by rw [List.append_assoc]; exact nd), List.append_assoc]
    rfl
def signs (z : Str) : List Str := z.cps.toList.map fun c => (⟨#[c]⟩ : Str)
section
variable {P : Program} {w : World} {K : PySem.W.Frag} {mg : Str → Option Value} {base : Heap} {σ : L2.St} {H : Hp}
end
end K11
end
section
namespace K11
open PySem PySem.Spec PyProof.Rows L2 Evl RZ Dw M20
/-! ### worths of what is put in -/
mutual
theorem wt_put {n : Nat} {sg : List (Str × Nat)} {tbs : List (List Nat)} {env : Str → Nat} {f : Str → Tm} : ∀ t : Tm, (t.put f).wt n sg tbs env = t.wt n sg tbs (fun x => (f x).wt n sg tbs env)
  | .var x => by rw [Tm.put, Tm.wt]
  | .deed h ts => by rw [Tm.put, Tm.wt, Tm.wt, wts_put ts]
theorem wts_put {n : Nat} {sg : List (Str × Nat)} {tbs : List (List Nat)} {env : Str → Nat} {f : Str → Tm} : ∀ ts : List Tm, wts n sg tbs env (puts f ts) = wts n sg tbs (fun x => (f x).wt n sg tbs env) ts
  | [] => by rw [puts, wts, wts]
  | t :: ts => by rw [puts, wts, wts, wt_put t, wts_put ts]
end
end K11
end
section
namespace K11
open PySem PySem.Spec PyProof.Rows L2 Evl RZ Dw M20
section
variable {P : Program} {w : World} {K : PySem.W.Frag} {mg : Str → Option Value} {base : Heap} {σ : L2.St} {H : Hp}
end
end K11
end
section
namespace K11
open PySem PySem.Spec PyProof.Rows L2 Evl RZ Dw M20
/-! ### numbers by their digits -/
def nz (n : Nat) (f : Nat → Nat) : Nat → Nat
  | 0 => 0
  | m + 1 => nz n f m * n + f m
/-! ### how many rows break, by other letters -/
def UArg.by (p : UArg) (e : Eqn) : UArg := ⟨p.sg, p.n, p.tbs, e⟩
/-! ### kept -/
def Kept (p : UArg) : Prop := ∀ env : Str → Nat, (∀ x, env x < p.n) → p.e.l.wt p.n p.sg p.tbs env = p.e.r.wt p.n p.sg p.tbs env
theorem Kept.put {p : UArg} (h : Kept p) {f : Str → Tm} (low : ∀ env : Str → Nat, (∀ x, env x < p.n) → ∀ x, (f x).wt p.n p.sg p.tbs env < p.n) : Kept (p.by ⟨p.e.l.put f, p.e.r.put f⟩) := fun env he => by
  show (p.e.l.put f).wt p.n p.sg p.tbs env = (p.e.r.put f).wt p.n p.sg p.tbs env
  rw [wt_put, wt_put]
  exact h _ (low env he)
theorem Kept.refl {p : UArg} {t : Tm} : Kept (p.by ⟨t, t⟩) := fun _ _ => rfl
/-! ### a term with another one at a path -/
end K11
end
section
namespace K11
open PySem PySem.Spec PyProof.Rows L2 Evl RZ Dw M20
section
variable {P : Program} {w : World} {K : PySem.W.Frag} {mg : Str → Option Value} {base : Heap} {σ : L2.St} {H : Hp}
def five : Str := "uvwxz"
end
end K11
end
section
namespace K11
open PySem PySem.Spec PyProof.Rows L2 Evl RZ Dw M20
section
variable {P : Program} {w : World} {K : PySem.W.Frag} {mg : Str → Option Value} {base : Heap} {σ : L2.St} {H : Hp}
/-! tuples of terms -/
def TpV (K : PySem.W.Frag) (H : Hp) (v : V) (ts : List Tm) : Prop := ∃ a us, v = .ref a ∧ SqT K H a us ∧ TmsV K H ts us
theorem TpV.ex {H H' : Hp} {v : V} {ts : List Tm} (e : Ex H H') (h : TpV K H v ts) : TpV K H' v ts := let ⟨a, us, q, s, t⟩ := h; ⟨a, us, q, ex_t e s, t.et (Dw.Ex.et e)⟩
end
end K11
end
section
namespace K11
open PySem PySem.Spec PyProof.Rows L2 Evl RZ Dw M20
section
variable {P : Program} {w : World} {K : PySem.W.Frag} {mg : Str → Option Value} {base : Heap} {σ : L2.St} {H : Hp}
end
end K11
end
section
namespace K11
open PySem PySem.Spec PyProof.Rows L2 Evl RZ Dw M20
section
variable {P : Program} {w : World} {K : PySem.W.Frag} {mg : Str → Option Value} {base : Heap} {σ : L2.St} {H : Hp}
/-! ### come -/
end
end K11
end
section
namespace K11
open PySem PySem.Spec PyProof.Rows L2 Evl RZ Dw M20 LiI
/-! ### matching, as the law goes through it -/
abbrev Sta := Option (List Str × (Str → Tm))
def StV (K : PySem.W.Frag) (H : Hp) (v : V) : Sta → Prop
  | none => v = .non
  | some q => PutV K H v q.1 q.2
theorem StV.ex {K : PySem.W.Frag} {H H' : Hp} {v : V} (e : Ex H H') : ∀ {S : Sta}, StV K H v S → StV K H' v S
  | none, h => h
  | some q, h => PutV.ex e h
structure SOk (sg : List (Str × Nat)) (S : Sta) : Prop where
  nd : ∀ q, S = some q → q.1.Nodup
  ok : ∀ q, S = some q → ∀ x ∈ q.1, x ∈ vars ∧ TOk (sg, q.2 x) ∧ (q.2 x).hgt ≤ 29
theorem SOk.none {sg : List (Str × Nat)} : SOk sg none := ⟨(fun q z => by cases z), (fun q z => by cases z)⟩
section
variable {P : Program} {w : World} {K : PySem.W.Frag} {mg : Str → Option Value} {base : Heap} {σ : L2.St} {H : Hp}
theorem et_isNone {ta : TE} {x : V} (h : Ev ta σ H x) : EvT (tTest (tOp (fun x y H Q => y = .non ∧ Q (.bl (decide (x = .non))) H) ta (tC .non))) σ H (decide (x = .non)) := fun H1 e1 Q q => do_test2 (h H1 e1 _ fun H2 e2 => ⟨rfl, _, rfl, q H2 e2⟩)
end
end K11
end
section
namespace K11
open PySem PySem.Spec PyProof.Rows L2 Evl RZ Dw M20 LiI
section
variable {P : Program} {w : World} {K : PySem.W.Frag} {mg : Str → Option Value} {base : Heap} {σ : L2.St} {H : Hp}
end
end K11
end
section
namespace K11
open PySem PySem.Spec PyProof.Rows L2 Evl RZ Dw M20 LiI
section
variable {P : Program} {w : World} {K : PySem.W.Frag} {mg : Str → Option Value} {base : Heap} {σ : L2.St} {H : Hp}
end
end K11
end
section
namespace K11
open PySem PySem.Spec PyProof.Rows L2 Evl RZ Dw M20 LiI
section
variable {P : Program} {w : World} {K : PySem.W.Frag} {mg : Str → Option Value} {base : Heap} {σ : L2.St} {H : Hp}
/-! tuples of terms -/
theorem q_whenE {c : TT} {tu tz : TS} {D : Ends} (h : c σ H fun b H1 => if b = true then tu { D with nx := tz D } σ H1 else tz D σ H1) : tSeq (tIfS c tu tNext) tz D σ H := h
end
end K11
end
section
namespace K11
open PySem PySem.Spec PyProof.Rows L2 Evl RZ Dw M20 LiI
section
variable {P : Program} {w : World} {K : PySem.W.Frag} {mg : Str → Option Value} {base : Heap} {σ : L2.St} {H : Hp} {C G : Addr}
/-- a try whose body is one call -/
theorem do_try {W0 : Ends → WX} {sp : Sp} {ta : TA} {tz : TS} {D : Ends} (h : ta σ H fun vs H1 => sp vs H1 (fun _ H2 => tz D σ H2) (WE (W0 { D with nx := tz D }) σ)) : tSeq (fun D σ H => tDrop (tCallS sp (fun σ => WE (W0 D) σ) ta) D σ H) tz D σ H := h
end
end K11
end
section
namespace K11
open PySem PySem.Spec PyProof.Rows L2 Evl RZ Dw M20
section
variable {P : Program} {w : World} {K : PySem.W.Frag} {mg : Str → Option Value} {base : Heap} {σ : L2.St} {H : Hp} {P0 B0 T0 G0 : Addr}
/-- what is no whole number -/
inductive NotInt (K : PySem.W.Frag) (H : Hp) : V → Prop where
  | bl (b : Bool) : NotInt K H (.bl b)
  | non : NotInt K H .non
  | str (z : Str) : NotInt K H (.str z)
  | tup {a : Addr} {xs : List V} (h : SqT K H a xs) : NotInt K H (.ref a)
theorem NotInt.ex {H' : Hp} {v : V} (e : Ex H H') (h : NotInt K H v) : NotInt K H' v := by
  cases h with
  | bl b => exact .bl b
  | non => exact .non
  | str z => exact .str z
  | tup h => exact .tup (ex_t e h)
theorem kit_nt : PySem.W.kitOne K (.type "NoneType") (.type "tuple") = some false := kit_ty (by decide +kernel)
theorem kit_it : PySem.W.kitOne K (.type "int") (.type "tuple") = some false := kit_ty (by decide +kernel)
theorem kit_st : PySem.W.kitOne K (.type "str") (.type "tuple") = some false := kit_ty (by decide +kernel)
theorem kit_lt : PySem.W.kitOne K (.type "list") (.type "tuple") = some false := kit_ty (by decide +kernel)
def isI : V → Bool
  | .int _ => true
  | _ => false
/-- what is no tuple -/
inductive NoTup (H : Hp) : V → Prop where
  | non : NoTup H .non
  | int (i : Int) : NoTup H (.int i)
  | str (z : Str) : NoTup H (.str z)
  | lst {a : Addr} {xs : List V} (h : H a = some (.lst xs)) : NoTup H (.ref a)
theorem NoTup.ex {H' : Hp} {v : V} (e : Ex H H') (h : NoTup H v) : NoTup H' v := by
  cases h with
  | non => exact .non
  | int i => exact .int i
  | str z => exact .str z
  | lst h => exact .lst (e _ _ h)
/-- no way on from u -/
def BadAt (K : PySem.W.Frag) (H : Hp) (u : Tm) (x : V) : Prop := (∃ y, u = .var y) ∨ NotInt K H x ∨ ∃ i : Int, x = .int i ∧ ¬ (0 ≤ i ∧ i < (u.kids.length : Int))
theorem BadAt.ex {H' : Hp} {u : Tm} {x : V} (e : Ex H H') (h : BadAt K H u x) : BadAt K H' u x := h.imp id (.imp (NotInt.ex e) id)
/-- no path of t -/
def OddV (K : PySem.W.Frag) (H : Hp) (t : Tm) (th : V) : Prop := NoTup H th ∨ ∃ (a : Addr) (q : List Nat) (u : Tm) (x : V) (rest : List V), th = .ref a ∧ SqT K H a (q.map vi ++ x :: rest) ∧ sub q t = some u ∧ BadAt K H u x
theorem OddV.ex {H' : Hp} {t : Tm} {v : V} (e : Ex H H') (h : OddV K H t v) : OddV K H' t v := by
  rcases h with h | ⟨a, q, u, x, r, h1, h2, h3, h4⟩
  · exact .inl (h.ex e)
  · exact .inr ⟨a, q, u, x, r, h1, ex_t e h2, h3, h4.ex e⟩
end
end K11
end
section
namespace K11
open PySem PySem.Spec PyProof.Rows L2 Evl RZ Dw M20
section
variable {P : Program} {w : World} {K : PySem.W.Frag} {mg : Str → Option Value} {base : Heap} {σ : L2.St} {H : Hp} {P0 B0 T0 G0 : Addr} {va : Addr}
theorem do_if {b : Bool} {tt : TT} {ta tb : TE} {Q : VK} (h : EvT tt σ H b) (h1 : b = true → ∀ H1, Ex H H1 → ta σ H1 Q) (h2 : b = false → ∀ H1, Ex H H1 → tb σ H1 Q) : tIf tt ta tb σ H Q := by
  refine h H (Ex.refl _) _ fun H1 e1 => ?_
  cases b with
  | true => exact h1 rfl H1 e1
  | false => exact h2 rfl H1 e1
/-- a letter that is none -/
def OddT (K : PySem.W.Frag) (H : Hp) (v : V) : Prop := ∃ a x, v = .ref a ∧ SqT K H a [.str "var", .str x] ∧ x ∉ vars
theorem OddT.ex {H' : Hp} {v : V} (e : Ex H H') (h : OddT K H v) : OddT K H' v := let ⟨a, x, h1, h2, h3⟩ := h; ⟨a, x, h1, ex_t e h2, h3⟩
end
end K11
end
section
namespace K11
open PySem PySem.Spec PyProof.Rows L2 Evl RZ Dw M20
section
variable {P : Program} {w : World} {K : PySem.W.Frag} {mg : Str → Option Value} {base : Heap} {σ : L2.St} {H : Hp} {P0 B0 T0 G0 : Addr} {va : Addr}
theorem et_isNP {ta : TE} (h : EvP ta σ H fun v _ => ∃ a, v = .ref a) : EvT (tTest (tOp (fun x y H Q => y = .non ∧ Q (.bl (!decide (x = .non))) H) ta (tC .non))) σ H true := fun H1 e Q q => h H1 e _ fun v H2 e2 ⟨a, hv⟩ => by
  subst hv
  exact ⟨rfl, _, rfl, q H2 e2⟩
/-- no term over sg -/
def BadT (K : PySem.W.Frag) (H : Hp) (sg : List (Str × Nat)) (v : V) : Prop := OddT K H v ∨ ∃ tm : Tm, TmV K H tm v ∧ tm.ok sg ∧ tm.sz ≤ 100 ∧ 60 < tm.sz
theorem BadT.ex {H' : Hp} {sg : List (Str × Nat)} {v : V} (e : Ex H H') (h : BadT K H sg v) : BadT K H' sg v := h.imp (·.ex e) fun ⟨tm, h1, h2⟩ => ⟨tm, h1.et (Dw.Ex.et e), h2⟩
end
end K11
end
section
namespace K11
open PySem PySem.Spec PyProof.Rows L2 Evl RZ Dw M20
mutual
def Tm.spots : Tm → List Nat → List (List Nat × Tm)
  | .var x, p => [(p, .var x)]
  | .deed f ts, p => (p, .deed f ts) :: spotss ts p 0
def spotss : List Tm → List Nat → Nat → List (List Nat × Tm)
  | [], _, _ => []
  | t :: ts, p, k => t.spots (p ++ [k]) ++ spotss ts p (k + 1)
end
mutual
theorem spots_fst : ∀ (t : Tm) (p : List Nat), (t.spots p).map (·.1) = t.pths.map (p ++ ·)
  | .var x, p => by
    rw [Tm.spots, Tm.pths]
    show [p] = [p ++ []]
    rw [List.append_nil]
  | .deed f ts, p => by
    rw [Tm.spots, Tm.pths, List.map_cons, List.map_cons, List.append_nil, spotss_fst ts p 0]
theorem spotss_fst : ∀ (ts : List Tm) (p : List Nat) (k : Nat), (spotss ts p k).map (·.1) = (pthss k ts).map (p ++ ·)
  | [], p, k => by
    rw [spotss, pthss]
    rfl
  | t :: ts, p, k => by
    rw [spotss, pthss, List.map_append, List.map_append, spots_fst t (p ++ [k]), spotss_fst ts p (k + 1), List.map_map]
    congr 1
    refine List.map_congr_left fun q _ => ?_
    show (p ++ [k]) ++ q = p ++ (k :: q)
    rw [List.append_assoc]
    rfl
end
theorem spots_len (t : Tm) (p : List Nat) : (t.spots p).length = t.sz := by
  rw [← pths_len t]
  have := congrArg List.length (spots_fst t p)
  rw [List.length_map, List.length_map] at this
  exact this
section
variable {P : Program} {w : World} {K : PySem.W.Frag} {mg : Str → Option Value} {base : Heap} {σ : L2.St} {H : Hp}
def SpV (K : PySem.W.Frag) (H : Hp) (u : V) (e : List Nat × Tm) : Prop := ∃ (a b : Addr) (v : V), u = .ref a ∧ SqT K H a [.ref b, v] ∧ SqT K H b (e.1.map vi) ∧ TmV K H e.2 v
theorem SpV.et {H' : Hp} {u : V} {e : List Nat × Tm} (x : ET K H H') (h : SpV K H u e) : SpV K H' u e := let ⟨a, b, v, h1, h2, h3, h4⟩ := h; ⟨a, b, v, h1, x _ _ h2, x _ _ h3, h4.et x⟩
def SpsV (K : PySem.W.Frag) (H : Hp) (v : V) (es : List (List Nat × Tm)) : Prop := ∃ (l : Addr) (us : List V), v = .ref l ∧ H l = some (.lst us) ∧ Paired (SpV K H) us es
theorem SpsV.ex {H' : Hp} {u : V} {e : List (List Nat × Tm)} (x : Ex H H') (h : SpsV K H u e) : SpsV K H' u e := let ⟨a, us, h1, h2, h3⟩ := h; ⟨a, us, h1, x _ _ h2, paired_imp (fun _ _ z => z.et (Dw.Ex.et x)) h3⟩
def natsD (p : List Nat) : List PyData := p.map fun k => .int ((k : Nat) : Int)
end
end K11
end
section
namespace K11
open PySem PySem.Spec PyProof.Rows L2 Evl RZ Dw M20
section
variable {P : Program} {w : World} {K : PySem.W.Frag} {mg : Str → Option Value} {base : Heap} {σ : L2.St} {H : Hp} {P0 B0 T0 G0 a1 a2 a3 a4 a5 a6 : Addr} {va : Addr}
def StrsV (H : Hp) (v : V) (ws : List Str) : Prop := ∃ l, v = .ref l ∧ H l = some (.lst (ws.map V.str))
theorem StrsV.ex {H' : Hp} {v : V} {ws : List Str} (e : Ex H H') (h : StrsV H v ws) : StrsV H' v ws := let ⟨l, a, b⟩ := h; ⟨l, a, e _ _ b⟩
theorem do_callS {sp : Sp} {E : L2.St → XK} {ta : TA} {D : Ends} (h : ta σ H fun vs H1 => sp vs H1 (fun _ H2 => D.nx σ H2) (E σ)) : tDrop (tCallS sp E ta) D σ H := h
end
end K11
end
section
namespace K11
open PySem PySem.Spec PyProof.Rows L2 Evl RZ Dw M20
section
variable {P : Program} {w : World} {K : PySem.W.Frag} {mg : Str → Option Value} {base : Heap} {σ : L2.St} {H : Hp} {P0 B0 T0 G0 : Addr} {va : Addr}
/-- can be shown -/
def RpV (K : PySem.W.Frag) (H : Hp) (v : V) : Prop := (∃ (a : Addr) (d : PyData), v = .ref a ∧ Dp K H (.ref a) d ∧ Gd 5 100000 d) ∨ v = .non ∨ (∃ i : Int, v = .int i ∧ i.natAbs.log2 < 1920) ∨ ∃ z : Str, v = .str z ∧ (reprText z).length ≤ sizeLine
mutual
theorem dp_ex {H' : Hp} (e : Ex H H') : ∀ {v : V} {d : PyData}, Dp K H v d → Dp K H' v d
  | _, _, .non => .non
  | _, _, .bl b => .bl b
  | _, _, .int i => .int i
  | _, _, .str x => .str x
  | _, _, .lst s h => .lst (ex_l e s) (dps_ex e h)
  | _, _, .tup s h => .tup (ex_t e s) (dps_ex e h)
theorem dps_ex {H' : Hp} (e : Ex H H') : ∀ {vs : List V} {ds : List PyData}, DpAll K H vs ds → DpAll K H' vs ds
  | _, _, .nil => .nil
  | _, _, .cons a b => .cons (dp_ex e a) (dps_ex e b)
end
theorem RpV.ex {H' : Hp} {v : V} (e : Ex H H') (h : RpV K H v) : RpV K H' v := h.imp (fun ⟨a, d, h1, h2, h3⟩ => ⟨a, d, h1, dp_ex e h2, h3⟩) id
/-- what _law_odd looks at -/
def ThV (K : PySem.W.Frag) (H : Hp) (t : Tm) (v : V) : Prop := (OddV K H t v ∧ RpV K H v) ∨ ∃ a, v = .ref a ∧ SqT K H a []
theorem ThV.ex {H' : Hp} {t : Tm} {v : V} (e : Ex H H') (h : ThV K H t v) : ThV K H' t v := h.imp (fun ⟨a, b⟩ => ⟨a.ex e, b.ex e⟩) fun ⟨a, h1, h2⟩ => ⟨a, h1, ex_t e h2⟩
def EvAP (K : PySem.W.Frag) (ta : TA) (σ : L2.St) (H : Hp) (t : Tm) (n : Nat) : Prop := ∀ H1, Ex H H1 → ∀ Q : List V → Hp → Prop, (∀ vs H2, Ex H1 H2 → vs.length = n → (∀ v ∈ vs, ThV K H2 t v) → Q vs H2) → ta σ H1 Q
theorem eap_nil {t : Tm} : EvAP K tNil σ H t 0 := fun H1 e Q q => do_nil (q [] H1 (Ex.refl _) rfl fun v h => by cases h)
theorem eap_cons {te : TE} {ta : TA} {t : Tm} {n : Nat} (h : EvP te σ H (fun v H' => ThV K H' t v)) (k : EvAP K ta σ H t n) : EvAP K (tCons te ta) σ H t (n + 1) := fun H1 e Q q =>
  do_cons (h H1 e _ fun v H2 e2 hv => k H2 (e.trans e2) _ fun vs H3 e3 l hvs => q (v :: vs) H3 (e2.trans e3) (by rw [List.length_cons, l]) fun x hx => by
    rcases List.mem_cons.mp hx with z | z
    · rw [z]
      exact hv.ex e3
    · exact hvs x z)
theorem flat_all : ∀ ks : List Str, (ks.map V.str).all flatV = true
  | [] => rfl
  | k :: ks => by
    rw [List.map_cons, List.all_cons, flat_all ks]
    rfl
end
end K11
end
section
namespace K11
open PySem PySem.Spec PyProof.Rows L2 Evl RZ Dw M20
section
variable {P : Program} {w : World} {K : PySem.W.Frag} {mg : Str → Option Value} {base : Heap} {σ : L2.St} {H : Hp} {P0 B0 T0 G0 : Addr} {va : Addr}
end
end K11
end
section
namespace K11
open PySem PySem.Spec PyProof.Rows L2 Evl RZ Dw M20
section
variable {P : Program} {w : World} {K : PySem.W.Frag} {mg : Str → Option Value} {base : Heap} {σ : L2.St} {H : Hp} {P0 B0 T0 G0 : Addr} {va : Addr}
def named (sg : List (Str × Nat)) (m : Nat) : List Str := (sg.filter fun d => d.2 == m).map (·.1)
/-- a long term of one letter -/
structure Chn (sg : List (Str × Nat)) (n : Nat) (t : Tm) : Prop where
  ok : t.ok sg
  sz : t.sz = n
  zs : ∀ x ∈ t.ls, x = ("z" : Str)
  ne : t.ls ≠ []
theorem Chn.one {sg : List (Str × Nat)} {n : Nat} {t : Tm} {f : Str} (h : Chn sg n t) (hf : (f, 1) ∈ sg) : Chn sg (n + 1) (.deed f [t]) := by
  have l : (Tm.deed f [t]).ls = t.ls := by rw [Tm.ls, lss, lss, List.append_nil]
  refine ⟨by rw [Tm.ok, oks, oks]; exact ⟨hf, h.ok, trivial⟩, by rw [Tm.sz, szs, szs, h.sz]; omega, fun x hx => h.zs x (l ▸ hx), by rw [l]; exact h.ne⟩
end
end K11
end
section
namespace K11
open PySem PySem.Spec PyProof.Rows L2 Evl RZ Dw M20
section
variable {P : Program} {w : World} {K : PySem.W.Frag} {mg : Str → Option Value} {base : Heap} {σ : L2.St} {H : Hp} {P0 B0 T0 G0 : Addr} {va : Addr}
/-- two things of the same data are not unequal -/
theorem ev_same {ta tb : TE} {d : PyData} (ha : EvP ta σ H fun v H' => Dp K H' v d) (hb : EvP tb σ H fun v H' => Dp K H' v d) (l : Lay d) : Ev (tOp (rNeL K) ta tb) σ H (.bl false) := fun H1 e Q q =>
  ha H1 e _ fun x H2 e2 hx => hb H2 (e.trans e2) _ fun y H3 e3 hy => ⟨d, d, dp_ex e3 hx, hy, l, l, by
    rw [SeqAt.eqv_refl d l.1]
    exact q H3 (e2.trans e3)⟩
theorem et_same {ta tb : TE} {d : PyData} (ha : EvP ta σ H fun v H' => Dp K H' v d) (hb : EvP tb σ H fun v H' => Dp K H' v d) (l : Lay d) : EvT (tTest (tOp (rNeL K) ta tb)) σ H false := et_test (ev_same ha hb l)
theorem Gd.layd {k W : Nat} {d : PyData} (h : Gd k W d) (a : k ≤ 190) : Lay d := ⟨h.lay, Nat.le_trans h.dep a⟩
/-! words -/
def dWs (ws : List Str) : PyData := .list (ws.map PyData.str)
theorem StrsV.dp {v : V} {ws : List Str} (h : StrsV H v ws) : Dp K H v (dWs ws) := by
  obtain ⟨l, rfl, hl⟩ := h
  exact .lst (sq_of hl) (dps_strs ws)
def dPs (ps : List (List Nat)) : PyData := .list (ps.map fun p => .tuple (natsD p))
theorem dps_paths {as : List Addr} {ps : List (List Nat)} (h : Paired (fun a p => SqT K H a (p.map vi)) as ps) : DpAll K H (as.map V.ref) (ps.map fun p => .tuple (natsD p)) := by
  induction h with
  | nil => exact .nil
  | cons a b ih => exact .cons (.tup a (dps_vi _)) ih
theorem PathsV.dp {l : Addr} {ps : List (List Nat)} (h : PathsV K H l ps) : Dp K H (.ref l) (dPs ps) := by
  obtain ⟨as, ha, pr⟩ := h
  exact .lst (sq_of ha) (dps_paths pr)
theorem SpsV.len {v : V} {y : Tm} (h : SpsV K H v (y.spots [])) : ∃ l us, v = .ref l ∧ H l = some (.lst us) ∧ us.length = y.sz := by
  obtain ⟨l, us, rfl, hl, pr⟩ := h
  exact ⟨l, us, rfl, hl, by rw [← spots_len y []]; exact paired_len pr⟩
end
end K11
end
section
namespace K11
open PySem PySem.Spec PyProof.Rows L2 Evl RZ Dw M20
section
variable {P : Program} {w : World} {K : PySem.W.Frag} {mg : Str → Option Value} {base : Heap} {σ : L2.St} {H : Hp} {P0 B0 T0 G0 : Addr} {va : Addr}
end
end K11
end
section
namespace K11
open PySem PySem.Spec PyProof.Rows L2 Evl RZ Dw M20
section
variable {P : Program} {w : World} {K : PySem.W.Frag} {mg : Str → Option Value} {base : Heap} {σ : L2.St} {H : Hp} {P0 B0 T0 G0 : Addr} {va : Addr}
end
end K11
end
section
namespace K11
open PySem PySem.Spec PyProof.Rows L2 Evl RZ Dw M20
section
variable {P : Program} {w : World} {K : PySem.W.Frag} {mg : Str → Option Value} {base : Heap} {σ : L2.St} {H : Hp} {P0 B0 T0 G0 : Addr} {va : Addr}
theorem s_forP {te : TE} {g : TG} {tu : TS} {D : Ends} {Pq : V → Hp → Prop} (h : EvP te σ H Pq) (k : ∀ v H1, Ex H H1 → Pq v H1 → ∃ a xs, v = .ref a ∧ SqL K H1 a xs ∧ ∃ Pv : Nat → L2.St → Hp → Prop, Pv 0 σ H1 ∧ (∀ i σ' H', i ≤ xs.length → Pv i σ' H' → SqL K H' a xs) ∧ (∀ i x σ' H', xs[i]? = some x → Pv i σ' H' → g x σ' H' fun σ2 H2 => tu { D with nx := Pv (i + 1), ct := Pv (i + 1), bk := D.nx } σ2 H2) ∧ ∀ σ' H', Pv xs.length σ' H' → D.nx σ' H') : tFor (iList K te) g tu D σ H := h H (Ex.refl H) _ fun v H1 e p => by
  obtain ⟨a, xs, rfl, hx, Pv, h0, hl, hs, hd⟩ := k v H1 e p
  exact ⟨a, rfl, ⟨xs, hx⟩, for_it walk_list Pv h0 hl (fun i x σ' H2 H3 hi p y => by
    obtain ⟨rfl, hx⟩ := y
    exact hs i x σ' _ hx p) hd⟩
theorem q_forP {te : TE} {g : TG} {tu tz : TS} {D : Ends} {Pq : V → Hp → Prop} (h : EvP te σ H Pq) (k : ∀ v H1, Ex H H1 → Pq v H1 → ∃ a xs, v = .ref a ∧ SqL K H1 a xs ∧ ∃ Pv : Nat → L2.St → Hp → Prop, Pv 0 σ H1 ∧ (∀ i σ' H', i ≤ xs.length → Pv i σ' H' → SqL K H' a xs) ∧ (∀ i x σ' H', xs[i]? = some x → Pv i σ' H' → g x σ' H' fun σ2 H2 => tu { D with nx := Pv (i + 1), ct := Pv (i + 1), bk := tz D } σ2 H2) ∧ ∀ σ' H', Pv xs.length σ' H' → tz D σ' H') : tSeq (tFor (iList K te) g tu) tz D σ H := s_forP (D := { D with nx := tz D }) h k
end
end K11
end
section
namespace K11
open PySem PySem.Spec PyProof.Rows L2 Evl RZ Dw M20
/-- a bent term: a letter, a deed over bent terms, anything else -/
inductive Bt where
  | var (x : Str)
  | deed (f : Str) (ts : List Bt)
  | odd (d : PyData)
/-- what is no text -/
inductive NoStr (K : PySem.W.Frag) (H : Hp) : V → Prop where
  | non : NoStr K H .non
  | int (i : Int) : NoStr K H (.int i)
  | tup {a : Addr} {xs : List V} (h : SqT K H a xs) : NoStr K H (.ref a)
/-- a list that is not of the purse -/
def FarL (_ : Hp) (xs : List V) : Prop := ∀ (i : Int) (r : List V), xs ≠ .int i :: r
theorem FarL.ex {H H' : Hp} {xs : List V} (e : Ex H H') (h : FarL H xs) : FarL H' xs := h
/-- data without lists, or a list of such, or a deed over one -/
inductive Dq (K : PySem.W.Frag) (H : Hp) : V → PyData → Prop where
  | fl {v : V} {d : PyData} (h : Dp K H v d) (nl : noL d = true) : Dq K H v d
  | lst {a : Addr} {xs : List V} {ds : List PyData} (h : H a = some (.lst xs)) (hd : DpAll K H xs ds) (nl : noLs ds = true) (far : FarL H xs) : Dq K H (.ref a) (.list ds)
  | deed {a b : Addr} {f : Str} {xs : List V} {ds : List PyData} (h0 : SqT K H a [.str "deed", .str f, .ref b]) (h : H b = some (.lst xs)) (hd : DpAll K H xs ds) (nl : noLs ds = true) (far : FarL H xs) : Dq K H (.ref a) (.tuple [.str "deed", .str f, .list ds])
theorem Dq.dp {K : PySem.W.Frag} {H : Hp} {v : V} {d : PyData} (h : Dq K H v d) : Dp K H v d := by
  cases h with
  | fl h => exact h
  | lst h hd => exact .lst (sq_of h) hd
  | deed h0 h hd => exact .tup h0 (.cons (.str _) (.cons (.str _) (.cons (.lst (sq_of h) hd) .nil)))
theorem Dq.ex {K : PySem.W.Frag} {H H' : Hp} {v : V} {d : PyData} (e : Ex H H') (h : Dq K H v d) : Dq K H' v d := by
  cases h with
  | fl h nl => exact .fl (dp_ex e h) nl
  | lst h hd nl far => exact .lst (e _ _ h) (dps_ex e hd) nl (far.ex e)
  | deed h0 h hd nl far => exact .deed (ex_t e h0) (e _ _ h) (dps_ex e hd) nl (far.ex e)
/-- what is no tuple (truths too) -/
inductive NoTu (H : Hp) : V → Prop where
  | non : NoTu H .non
  | int (i : Int) : NoTu H (.int i)
  | bl (b : Bool) : NoTu H (.bl b)
  | str (z : Str) : NoTu H (.str z)
  | lst {a : Addr} {xs : List V} (h : H a = some (.lst xs)) (far : FarL H xs) : NoTu H (.ref a)
/-- no term's form, at its own place -/
inductive NF (K : PySem.W.Frag) (H : Hp) (sg : List (Str × Nat)) : V → Prop where
  | tup {v : V} (h : NoTu H v) : NF K H sg v
  | len {a : Addr} {xs : List V} (h : SqT K H a xs) (h2 : xs.length ≠ 2) (h3 : xs.length ≠ 3) : NF K H sg (.ref a)
  | two {a : Addr} {z : Str} {x : V} (h : SqT K H a [.str z, x]) (ne : z ≠ "var") : NF K H sg (.ref a)
  | letter {a : Addr} {x : V} (h : SqT K H a [.str "var", x]) (fl : flatV x = true) (no : inV x (vars.map V.str) = false) : NF K H sg (.ref a)
  | three {a : Addr} {z : Str} {x y : V} (h : SqT K H a [.str z, x, y]) (ne : z ≠ "deed") : NF K H sg (.ref a)
  | name {a : Addr} {x y : V} (h : SqT K H a [.str "deed", x, y]) (no : NoStr K H x) : NF K H sg (.ref a)
  | terms {a : Addr} {f : Str} {y : V} (h : SqT K H a [.str "deed", .str f, y]) (no : NoTu H y) : NF K H sg (.ref a)
  | many {a b : Addr} {f : Str} {us : List V} (h : SqT K H a [.str "deed", .str f, .ref b]) (h2 : SqT K H b us) (no : (f, us.length) ∉ sg) (sk : PyData.strOk f = true) : NF K H sg (.ref a)
section
variable {P : Program} {w : World} {K : PySem.W.Frag} {mg : Str → Option Value} {base : Heap} {σ : L2.St} {H H' : Hp} {va : Addr} {sg : List (Str × Nat)}
theorem NoStr.ex {v : V} (e : Ex H H') (h : NoStr K H v) : NoStr K H' v := by
  cases h with
  | non => exact .non
  | int i => exact .int i
  | tup h => exact .tup (ex_t e h)
theorem NoTu.ex {v : V} (e : Ex H H') (h : NoTu H v) : NoTu H' v := by
  cases h with
  | non => exact .non
  | int i => exact .int i
  | bl b => exact .bl b
  | str z => exact .str z
  | lst h far => exact .lst (e _ _ h) (far.ex e)
theorem NF.ex {v : V} (e : Ex H H') (h : NF K H sg v) : NF K H' sg v := by
  cases h with
  | tup h => exact .tup (h.ex e)
  | len h h2 h3 => exact .len (ex_t e h) h2 h3
  | two h ne => exact .two (ex_t e h) ne
  | letter h fl no => exact .letter (ex_t e h) fl no
  | three h ne => exact .three (ex_t e h) ne
  | name h no => exact .name (ex_t e h) (no.ex e)
  | terms h no => exact .terms (ex_t e h) (no.ex e)
  | many h h2 no sk => exact .many (ex_t e h) (ex_t e h2) no sk
mutual
def BtV (K : PySem.W.Frag) (H : Hp) (sg : List (Str × Nat)) : Bt → V → Prop
  | .var x => fun v => ∃ a, v = .ref a ∧ SqT K H a [.str "var", .str x]
  | .deed f ts => fun v => ∃ a b vs, v = .ref a ∧ SqT K H a [.str "deed", .str f, .ref b] ∧ SqT K H b vs ∧ BtsV K H sg ts vs
  | .odd d => fun v => Dq K H v d ∧ NF K H sg v
def BtsV (K : PySem.W.Frag) (H : Hp) (sg : List (Str × Nat)) : List Bt → List V → Prop
  | [] => fun vs => vs = []
  | t :: ts => fun vs => ∃ v us, vs = v :: us ∧ BtV K H sg t v ∧ BtsV K H sg ts us
end
mutual
/-- letters and deeds in their form -/
def Bt.ok (sg : List (Str × Nat)) : Bt → Prop
  | .var x => x ∈ vars
  | .deed f ts => (f, ts.length) ∈ sg ∧ boks sg ts
  | .odd _ => True
def boks (sg : List (Str × Nat)) : List Bt → Prop
  | [] => True
  | t :: ts => t.ok sg ∧ boks sg ts
end
mutual
theorem BtV.ex (e : Ex H H') : ∀ {t : Bt} {v : V}, BtV K H sg t v → BtV K H' sg t v
  | .var x, v, h => by
    rw [BtV] at h ⊢
    obtain ⟨a, q, s⟩ := h
    exact ⟨a, q, ex_t e s⟩
  | .deed f ts, v, h => by
    rw [BtV] at h ⊢
    obtain ⟨a, b, vs, q, s, s2, r⟩ := h
    exact ⟨a, b, vs, q, ex_t e s, ex_t e s2, BtsV.ex e r⟩
  | .odd d, v, h => by
    rw [BtV] at h ⊢
    exact ⟨h.1.ex e, h.2.ex e⟩
theorem BtsV.ex (e : Ex H H') : ∀ {ts : List Bt} {vs : List V}, BtsV K H sg ts vs → BtsV K H' sg ts vs
  | [], vs, h => by
    rw [BtsV] at h ⊢
    exact h
  | t :: ts, vs, h => by
    rw [BtsV] at h ⊢
    obtain ⟨v, us, q, a, b⟩ := h
    exact ⟨v, us, q, BtV.ex e a, BtsV.ex e b⟩
end
theorem BtsV.len : ∀ {ts : List Bt} {vs : List V}, BtsV K H sg ts vs → vs.length = ts.length
  | [], vs, h => by
    rw [BtsV] at h
    rw [h]
    rfl
  | t :: ts, vs, h => by
    rw [BtsV] at h
    obtain ⟨v, us, rfl, _, b⟩ := h
    rw [List.length_cons, List.length_cons, BtsV.len b]
/-- has it a term's form? -/
def Bt.fits : Bt → Bool
  | .odd _ => false
  | _ => true
/-- the dict of a signature's deeds, and nothing else -/
def PlcX (H : Hp) (d : Addr) (sg : List (Str × Nat)) : Prop := ∃ kvs : List (Key × V), H d = some (.dK kvs) ∧ (∀ p ∈ sg, valV kvs (.inr p.1) = some (vi p.2)) ∧ ∀ x, x ∉ sg.map (·.1) → valV kvs (.inr x) = none
theorem PlcX.ex {d : Addr} (e : Ex H H') (h : PlcX H d sg) : PlcX H' d sg := let ⟨k, a, b⟩ := h; ⟨k, e _ _ a, b⟩
theorem kit_bt : PySem.W.kitOne K (.type "bool") (.type "tuple") = some false := kit_ty (by decide +kernel)
theorem kit_is : PySem.W.kitOne K (.type "int") (.type "str") = some false := kit_ty (by decide +kernel)
theorem kit_ns : PySem.W.kitOne K (.type "NoneType") (.type "str") = some false := kit_ty (by decide +kernel)
theorem kit_ts : PySem.W.kitOne K (.type "tuple") (.type "str") = some false := kit_ty (by decide +kernel)
theorem ev_noTu {ta tb : TE} {x : V} (ha : Ev ta σ H x) (hc : Ev tb σ H (.ty "tuple")) (h : NoTu H x) : Ev (tCB (rIsi K) (tCons ta (tCons tb tNil))) σ H (.bl false) := by
  cases h with
  | non => exact ev_isi ha hc (.ty _) (fun _ _ => tyx_non) kit_nt
  | int i => exact ev_isi ha hc (.ty _) (fun _ _ => tyx_int i) kit_it
  | bl b => exact ev_isi ha hc (.ty _) (fun _ _ => tyx_bl b) kit_bt
  | str z => exact ev_isi ha hc (.ty _) (fun _ _ => tyx_str z) kit_st
  | lst h _ => exact ev_isi ha hc (.ty _) (fun _ e => .base (.lst (e _ _ h))) kit_lt
theorem ev_noStr {ta tb : TE} {x : V} (ha : Ev ta σ H x) (hc : Ev tb σ H (.ty "str")) (h : NoStr K H x) : Ev (tCB (rIsi K) (tCons ta (tCons tb tNil))) σ H (.bl false) := by
  cases h with
  | non => exact ev_isi ha hc (.ty _) (fun _ _ => tyx_non) kit_ns
  | int i => exact ev_isi ha hc (.ty _) (fun _ _ => tyx_int i) kit_is
  | tup h => exact ev_isi ha hc (.ty _) (fun _ e => tyx_tup (ex_t e h)) kit_ts
def sp_form_any (K : PySem.W.Frag) : Sp := spX (fun (p : List (Str × Nat) × Bt) vs H => (∃ d v, vs = [.ref d, v] ∧ PlcX H d p.1 ∧ BtV K H p.1 p.2 v) ∧ p.2.ok p.1 ∧ (p.1.map (·.1)).Nodup) (fun p v _ => v = .bl p.2.fits)
theorem c_form_any (T : Txt mg) (V0 : Vars K mg va) (D : Df K mg "has_term_form" s_has_term_form ["places", "thing"]) : Cl P w K mg base 1 "has_term_form" (sp_form_any K) := by
  refine cl_of (k := 0) D sc_has_term_form (fun vs H Q E h => ?_) (fun f cdv A outer s H vs Q E hr h => ?_)
  · obtain ⟨p, ⟨⟨d, v, rfl, _⟩, _⟩, _⟩ := h
    rfl
  · obtain ⟨⟨sg, t⟩, ⟨⟨d, v, rfl, ⟨kvs, hd, val, out⟩, tv⟩, ok, nd⟩, q⟩ := h
    refine ⟨_, (pss_cons (ps_if (pt_not (pt_val (pe_callB call_isi (by rfl) T.z_isinstance (by decide +kernel) (pa_cons (pv 1) (pa_cons (pe_ty "tuple" (by rfl) T.z_tuple (by decide +kernel)) pa_nil)))))
        (pss_one (ps_ret pe_bl))
        pss_nil)
      (pss_cons (ps_if (pt_cmpR op_eq (pe_callB call_len_seq (by rfl) T.z_len PySem.boot_len (pa_cons (pv 1) pa_nil)) pe_int (nomark _))
        (pss_one (ps_ret (pe_and (pe_cmpR op_eq (pe_ix ix_tup (pv 1) pe_int (fun _ _ => rfl)) pe_str (nomark _)) (pe_one (pe_cmpR op_in_seq (pe_ix ix_tup (pv 1) pe_int (fun _ _ => rfl)) (pe_gv (by rfl) V0.at_) (by rfl))))))
        pss_nil)
      (pss_cons (ps_if (PW.pt (pw_or (pt_cmpR op_ne (pe_callB call_len_seq (by rfl) T.z_len PySem.boot_len (pa_cons (pv 1) pa_nil)) pe_int (nomark _)) (pw_or1 (pt_cmpR op_ne (pe_ix ix_tup (pv 1) pe_int (fun _ _ => rfl)) pe_str (nomark _)))))
        (pss_one (ps_ret pe_bl))
        pss_nil)
      (pss_cons (ps_par (i := 2) (j := 3) (by rfl) sc_has_term_form.nd rfl rfl (by decide) rfl rfl (pa_cons (pe_ix ix_tup (pv 1) pe_int (fun _ _ => rfl)) (pa_cons (pe_ix ix_tup (pv 1) pe_int (fun _ _ => rfl)) pa_nil)) (by rfl))
      (pss_one (ps_ret (pe_and (pe_callB call_isi (by rfl) T.z_isinstance (by decide +kernel) (pa_cons (pv 2) (pa_cons (pe_ty "str" (by rfl) T.z_str (by decide +kernel)) pa_nil))) (pe_and (pe_cmp (pc_din (hu_of hr) (pv 2) (pv 0))) (pe_and (pe_callB call_isi (by rfl) T.z_isinstance (by decide +kernel) (pa_cons (pv 3) (pa_cons (pe_ty "tuple" (by rfl) T.z_tuple (by decide +kernel)) pa_nil))) (pe_one (pe_cmpR op_eq (pe_callB call_len_seq (by rfl) T.z_len PySem.boot_len (pa_cons (pv 3) pa_nil)) (pe_dget (hu_of hr) (pv 0) (pv 2) (fun _ _ => rfl)) (nomark _)))))))))))), ?_⟩
    replace tv : BtV K H sg t v := tv
    replace ok : t.ok sg := ok
    replace nd : (sg.map (·.1)).Nodup := nd
    replace val : ∀ p ∈ sg, valV kvs (.inr p.1) = some (vi p.2) := val
    replace out : ∀ x, x ∉ sg.map (·.1) → valV kvs (.inr x) = none := out
    replace q : ∀ r H', Ex H H' → r = .bl t.fits → Q r H' := q
    have isT : ∀ {a : Addr} {xs : List V}, SqT K H a xs → ∀ {H1 : Hp}, Ex H H1 → ∀ {y2 y3 : Option V}, EvT (tNot (tB (tCB (rIsi K) (tCons (tVar 1) (tCons (tC (.ty "tuple")) tNil))))) [some (.ref d), some (.ref a), y2, y3] H1 false := fun {a xs} h {H1} e1 {y2 y3} => et_is (et_not (et_val (ev_isi (ev_var rfl) ev_c (.ty _) (fun _ e => tyx_tup (ex_t (e1.trans e) h)) kit_tt))) rfl
    have len2 : ∀ {a : Addr} {xs : List V}, SqT K H a xs → ∀ {H1 : Hp}, Ex H H1 → ∀ {y2 y3 : Option V}, EvT (tTest (tOp rEq (tCB (rLenS K) (tCons (tVar 1) tNil)) (tC (.int 2)))) [some (.ref d), some (.ref a), y2, y3] H1 (decide (xs.length = 2)) := fun {a xs} h {H1} e1 {y2 y3} => et_is (et_test (ev_op (ev_lenT (ev_var rfl) (ex_t e1 h)) ev_c (rv_eq rfl))) (by
      show decide (V.int (xs.length : Int) = V.int 2) = _
      by_cases z : xs.length = 2
      · rw [decide_eq_true z, decide_eq_true (by rw [z]; rfl)]
      · rw [decide_eq_false z, decide_eq_false (fun y => z (by
          injection y with y
          omega))])
    have ne3 : ∀ {a : Addr} {xs : List V}, SqT K H a xs → ∀ {H1 : Hp}, Ex H H1 → ∀ {y2 y3 : Option V}, EvT (tTest (tOp rNe (tCB (rLenS K) (tCons (tVar 1) tNil)) (tC (.int 3)))) [some (.ref d), some (.ref a), y2, y3] H1 (!decide (xs.length = 3)) := fun {a xs} h {H1} e1 {y2 y3} => et_is (et_test (ev_op (ev_lenT (ev_var rfl) (ex_t e1 h)) ev_c (rv_ne rfl))) (by
      show (!decide (V.int (xs.length : Int) = V.int 3)) = _
      by_cases z : xs.length = 3
      · rw [decide_eq_true z, decide_eq_true (by rw [z]; rfl)]
      · rw [decide_eq_false z, decide_eq_false (fun y => z (by
          injection y with y
          omega))])
    have at0 : ∀ {a : Addr} {x : V} {xs : List V} {k : Nat}, SqT K H a xs → xs[k]? = some x → ∀ {H1 : Hp}, Ex H H1 → ∀ {y2 y3 : Option V}, Ev (tOp (rIxT K) (tVar 1) (tC (vi k))) [some (.ref d), some (.ref a), y2, y3] H1 x := fun {a x xs k} h hk {H1} e1 {y2 y3} => ev_op (ev_var rfl) ev_c (rv_ixT (K := K) (ex_t e1 h) (atI_vi (k := k) hk))
    have str_ne : ∀ {z y : Str}, z ≠ y → decide (V.str z = V.str y) = false := fun {z y} h => decide_eq_false (fun e => h (by injection e))
    have noF : ∀ {y2 y3 : Option V} {w0 : V} {H1 : Hp}, Ex H H1 → t.fits = false → tRet (tC (.bl false)) { nx := fun _ H' => Q .non H', rt := Q } [some (.ref d), some w0, y2, y3] H1 := fun {y2 y3 w0 H1} e1 hf => s_ret (v := .bl false) ev_c fun H2 e2 => q _ H2 (e1.trans e2) (by rw [hf])
    cases t with
    | var x =>
      rw [BtV] at tv
      rw [Bt.ok] at ok
      obtain ⟨a, rfl, ha⟩ := tv
      refine q_when (b := false) (isT ha (Ex.refl _)) (fun hb => by cases hb) (fun _ H1 e1 => ?_)
      refine q_when (b := true) (len2 ha e1) (fun _ H2 e2 => ?_) (fun hb => by cases hb)
      have e02 := e1.trans e2
      refine s_ret (v := .bl true) (ev_is (ev_andV (ev_op (at0 (k := 0) ha rfl e02) ev_c (rv_eq rfl)) (fun _ => ev_op (at0 (k := 1) ha rfl e02) ev_c (rv_isT (V0.sq _) rfl (flat_strs vars)))) (by rw [inV_str, decide_eq_true ok]; rfl)) fun H3 e3 => q _ H3 (e02.trans e3) rfl
    | deed f ts =>
      rw [BtV] at tv
      rw [Bt.ok] at ok
      obtain ⟨a, b, us, rfl, ha, hb, tms⟩ := tv
      obtain ⟨mem, _⟩ := ok
      have lu := tms.len
      have vf := val _ mem
      refine q_when (b := false) (isT ha (Ex.refl _)) (fun hb => by cases hb) (fun _ H1 e1 => ?_)
      refine q_when (b := false) (len2 ha e1) (fun hb => by cases hb) (fun _ H2 e2 => ?_)
      have e02 := e1.trans e2
      refine q_when (b := false) (et_is (et_or (a := false) (b := false) (ne3 ha e02) (fun _ => et_is (et_test (ev_op (at0 (k := 0) ha rfl e02) ev_c (rv_ne rfl))) (by decide))) rfl) (fun hb => by cases hb) (fun _ H3 e3 => ?_)
      have e03 := e02.trans e3
      refine do_par ((ea_cons (at0 (k := 1) ha rfl e03) (ea_cons (at0 (k := 2) ha rfl e03) ea_nil)) H3 (Ex.refl _) _ fun H4 e4 => ⟨_, _, rfl, ?_⟩)
      have e04 := e03.trans e4
      show tRet _ _ [some (.ref d), some (.ref a), some (.str f), some (.ref b)] H4
      refine s_ret (v := .bl true) (ev_is (ev_andV (a := true) (ev_isi (ev_var rfl) ev_c (.ty _) (fun _ _ => tyx_str f) kit_ss) (fun _ => ev_andV (a := true) (ev_din (ev_var rfl) (ev_var rfl) (e04 _ _ hd) (by rw [vf]; rfl)) (fun _ => ev_andV (a := true) (ev_isi (ev_var rfl) ev_c (.ty _) (fun _ e => tyx_tup (ex_t (e04.trans e) hb)) kit_tt) (fun _ => ev_op (ev_lenT (ev_var rfl) (ex_t e04 hb)) (ev_dget (ev_var rfl) (ev_var rfl) (e04 _ _ hd) vf) (rv_eq rfl))))) ?_) fun H5 e5 => q _ H5 (e04.trans e5) rfl
      rw [lu]
      simp
    | odd dd =>
      rw [BtV] at tv
      obtain ⟨_, nf⟩ := tv
      cases nf with
      | tup h => exact q_when (b := true) (et_is (et_not (et_val (ev_noTu (K := K) (ev_var rfl) ev_c h))) rfl) (fun _ H1 e1 => noF e1 rfl) (fun hb => by cases hb)
      | len h h2 h3 =>
        refine q_when (b := false) (isT h (Ex.refl _)) (fun hb => by cases hb) (fun _ H1 e1 => ?_)
        refine q_when (b := false) (et_is (len2 h e1) (decide_eq_false h2)) (fun hb => by cases hb) (fun _ H2 e2 => ?_)
        exact q_when (b := true) (et_is (et_or (a := true) (b := false) (et_is (ne3 h (e1.trans e2)) (by rw [decide_eq_false h3]; rfl)) (fun z => by cases z)) rfl) (fun _ H3 e3 => noF ((e1.trans e2).trans e3) rfl) (fun hb => by cases hb)
      | two h ne =>
        refine q_when (b := false) (isT h (Ex.refl _)) (fun hb => by cases hb) (fun _ H1 e1 => ?_)
        refine q_when (b := true) (len2 h e1) (fun _ H2 e2 => ?_) (fun hb => by cases hb)
        exact s_ret (v := .bl false) (ev_is (ev_andV (a := false) (b := false) (ev_is (ev_op (at0 (k := 0) h rfl (e1.trans e2)) ev_c (rv_eq rfl)) (by rw [str_ne ne])) (fun z => by cases z)) rfl) fun H3 e3 => q _ H3 ((e1.trans e2).trans e3) rfl
      | letter h fl no =>
        refine q_when (b := false) (isT h (Ex.refl _)) (fun hb => by cases hb) (fun _ H1 e1 => ?_)
        refine q_when (b := true) (len2 h e1) (fun _ H2 e2 => ?_) (fun hb => by cases hb)
        have e02 := e1.trans e2
        exact s_ret (v := .bl false) (ev_is (ev_andV (ev_op (at0 (k := 0) h rfl e02) ev_c (rv_eq rfl)) (fun _ => ev_op (at0 (k := 1) h rfl e02) ev_c (rv_isT (V0.sq _) fl (flat_strs vars)))) (by rw [no, Bool.and_false])) fun H3 e3 => q _ H3 (e02.trans e3) rfl
      | three h ne =>
        refine q_when (b := false) (isT h (Ex.refl _)) (fun hb => by cases hb) (fun _ H1 e1 => ?_)
        refine q_when (b := false) (len2 h e1) (fun hb => by cases hb) (fun _ H2 e2 => ?_)
        have e02 := e1.trans e2
        exact q_when (b := true) (et_is (et_or (a := false) (b := true) (ne3 h e02) (fun _ => et_is (et_test (ev_op (at0 (k := 0) h rfl e02) ev_c (rv_ne rfl))) (by rw [str_ne ne]; rfl))) rfl) (fun _ H3 e3 => noF (e02.trans e3) rfl) (fun hb => by cases hb)
      | @name a x y h no =>
        refine q_when (b := false) (isT h (Ex.refl _)) (fun hb => by cases hb) (fun _ H1 e1 => ?_)
        refine q_when (b := false) (len2 h e1) (fun hb => by cases hb) (fun _ H2 e2 => ?_)
        have e02 := e1.trans e2
        refine q_when (b := false) (et_is (et_or (a := false) (b := false) (ne3 h e02) (fun _ => et_is (et_test (ev_op (at0 (k := 0) h rfl e02) ev_c (rv_ne rfl))) (by decide))) rfl) (fun hb => by cases hb) (fun _ H3 e3 => ?_)
        have e03 := e02.trans e3
        refine do_par ((ea_cons (at0 (k := 1) h rfl e03) (ea_cons (at0 (k := 2) h rfl e03) ea_nil)) H3 (Ex.refl _) _ fun H4 e4 => ⟨_, _, rfl, ?_⟩)
        have e04 := e03.trans e4
        show tRet _ _ [some (.ref d), some (.ref a), some x, some y] H4
        exact s_ret (v := .bl false) (ev_is (ev_andV (a := false) (b := false) (ev_noStr (K := K) (ev_var rfl) ev_c (no.ex e04)) (fun z => by cases z)) rfl) fun H5 e5 => q _ H5 (e04.trans e5) rfl
      | @terms a f y h no =>
        refine q_when (b := false) (isT h (Ex.refl _)) (fun hb => by cases hb) (fun _ H1 e1 => ?_)
        refine q_when (b := false) (len2 h e1) (fun hb => by cases hb) (fun _ H2 e2 => ?_)
        have e02 := e1.trans e2
        refine q_when (b := false) (et_is (et_or (a := false) (b := false) (ne3 h e02) (fun _ => et_is (et_test (ev_op (at0 (k := 0) h rfl e02) ev_c (rv_ne rfl))) (by decide))) rfl) (fun hb => by cases hb) (fun _ H3 e3 => ?_)
        have e03 := e02.trans e3
        refine do_par ((ea_cons (at0 (k := 1) h rfl e03) (ea_cons (at0 (k := 2) h rfl e03) ea_nil)) H3 (Ex.refl _) _ fun H4 e4 => ⟨_, _, rfl, ?_⟩)
        have e04 := e03.trans e4
        show tRet _ _ [some (.ref d), some (.ref a), some (.str f), some y] H4
        exact s_ret (v := .bl false) (ev_is (ev_andV (a := true) (b := false) (ev_isi (ev_var rfl) ev_c (.ty _) (fun _ _ => tyx_str f) kit_ss) (fun _ => ev_is (ev_andV (b := false) (ev_din (ev_var rfl) (ev_var rfl) (e04 _ _ hd) rfl) (fun _ => ev_is (ev_andV (a := false) (b := false) (ev_noTu (K := K) (ev_var rfl) ev_c (no.ex e04)) (fun z => by cases z)) rfl)) (by rw [Bool.and_false]))) rfl) fun H5 e5 => q _ H5 (e04.trans e5) rfl
      | @many a b f us h h2 no sk =>
        refine q_when (b := false) (isT h (Ex.refl _)) (fun hb => by cases hb) (fun _ H1 e1 => ?_)
        refine q_when (b := false) (len2 h e1) (fun hb => by cases hb) (fun _ H2 e2 => ?_)
        have e02 := e1.trans e2
        refine q_when (b := false) (et_is (et_or (a := false) (b := false) (ne3 h e02) (fun _ => et_is (et_test (ev_op (at0 (k := 0) h rfl e02) ev_c (rv_ne rfl))) (by decide))) rfl) (fun hb => by cases hb) (fun _ H3 e3 => ?_)
        have e03 := e02.trans e3
        refine do_par ((ea_cons (at0 (k := 1) h rfl e03) (ea_cons (at0 (k := 2) h rfl e03) ea_nil)) H3 (Ex.refl _) _ fun H4 e4 => ⟨_, _, rfl, ?_⟩)
        have e04 := e03.trans e4
        show tRet _ _ [some (.ref d), some (.ref a), some (.str f), some (.ref b)] H4
        by_cases mem : f ∈ sg.map (·.1)
        · obtain ⟨pr, hpr, epr⟩ := List.mem_map.mp mem
          obtain ⟨f', n⟩ := pr
          cases (show f' = f from epr)
          have vf : valV kvs (.inr f) = some (vi n) := val _ hpr
          refine s_ret (v := .bl false) (ev_is (ev_andV (a := true) (b := false) (ev_isi (ev_var rfl) ev_c (.ty _) (fun _ _ => tyx_str f) kit_ss) (fun _ => ev_is (ev_andV (a := true) (b := false) (ev_din (ev_var rfl) (ev_var rfl) (e04 _ _ hd) (by rw [vf]; rfl)) (fun _ => ev_is (ev_andV (a := true) (b := false) (ev_isi (ev_var rfl) ev_c (.ty _) (fun _ e => tyx_tup (ex_t (e04.trans e) h2)) kit_tt) (fun _ => ev_is (ev_op (ev_lenT (ev_var rfl) (ex_t e04 h2)) (ev_dget (ev_var rfl) (ev_var rfl) (e04 _ _ hd) vf) (rv_eq rfl)) ?_)) rfl)) rfl)) rfl) fun H5 e5 => q _ H5 (e04.trans e5) rfl
          show V.bl (decide (V.int (us.length : Int) = V.int (n : Int))) = .bl false
          rw [decide_eq_false (fun z => no (by
            injection z with z
            have : us.length = n := by omega
            rw [this]
            exact hpr))]
        · exact s_ret (v := .bl false) (ev_is (ev_andV (a := true) (b := false) (ev_isi (ev_var rfl) ev_c (.ty _) (fun _ _ => tyx_str f) kit_ss) (fun _ => ev_is (ev_andV (a := false) (b := false) (ev_din (ev_var rfl) (ev_var rfl) (e04 _ _ hd) (by rw [out f mem]; rfl)) (fun z => by cases z)) rfl)) rfl) fun H5 e5 => q _ H5 (e04.trans e5) rfl
end
end K11
end
section
namespace K11
open PySem PySem.Spec PyProof.Rows L2 Evl RZ Dw M20
mutual
/-- how many parts are met -/
def Bt.sz : Bt → Nat
  | .var _ => 1
  | .deed _ ts => 1 + bszs ts
  | .odd _ => 1
def bszs : List Bt → Nat
  | [] => 0
  | t :: ts => t.sz + bszs ts
end
mutual
/-- what is met, with its paths -/
def Bt.met : Bt → List Nat → List (List Nat × Bt)
  | .var x, p => [(p, .var x)]
  | .deed f ts, p => (p, .deed f ts) :: mets ts p 0
  | .odd d, p => [(p, .odd d)]
def mets : List Bt → List Nat → Nat → List (List Nat × Bt)
  | [], _, _ => []
  | t :: ts, p, k => t.met (p ++ [k]) ++ mets ts p (k + 1)
end
mutual
theorem met_len : ∀ (t : Bt) (p : List Nat), (t.met p).length = t.sz
  | .var x, p => by rw [Bt.met, Bt.sz]; rfl
  | .deed f ts, p => by rw [Bt.met, Bt.sz, List.length_cons, mets_len ts p 0, Nat.add_comm]
  | .odd d, p => by rw [Bt.met, Bt.sz]; rfl
theorem mets_len : ∀ (ts : List Bt) (p : List Nat) (k : Nat), (mets ts p k).length = bszs ts
  | [], p, k => by rw [mets, bszs]; rfl
  | t :: ts, p, k => by rw [mets, bszs, List.length_append, met_len t, mets_len ts]
end
theorem len_bszs : ∀ ts : List Bt, ts.length ≤ bszs ts
  | [] => Nat.zero_le _
  | t :: ts => by
    have a := len_bszs ts
    have b : 1 ≤ t.sz := by
      cases t <;> rw [Bt.sz] <;> omega
    rw [List.length_cons, bszs]
    omega
theorem bsz_le : ∀ {ts : List Bt} {k : Nat} {u : Bt}, ts[k]? = some u → u.sz ≤ bszs ts
  | [], k, u, h => by
    rw [List.getElem?_nil] at h
    cases h
  | t :: ts, 0, u, h => by
    cases Option.some.inj h
    rw [bszs]
    omega
  | t :: ts, k + 1, u, h => by
    have := bsz_le (ts := ts) (k := k) (u := u) h
    rw [bszs]
    omega
/-- a row of things at their paths -/
def flatB (S : List (List Nat × Bt)) : List (List Nat × Bt) := S.flatMap fun q => q.2.met q.1
def kidsB (p : List Nat) : Nat → List Bt → List (List Nat × Bt)
  | _, [] => []
  | k, t :: ts => (p ++ [k], t) :: kidsB p (k + 1) ts
theorem kidsB_flat (p : List Nat) : ∀ (k : Nat) (ts : List Bt), flatB (kidsB p k ts) = mets ts p k
  | _, [] => by
    rw [kidsB, mets]
    rfl
  | k, t :: ts => by
    rw [kidsB, mets, ← kidsB_flat p (k + 1) ts]
    rfl
theorem kidsB_len (p : List Nat) : ∀ (k : Nat) (ts : List Bt), (kidsB p k ts).length = ts.length
  | _, [] => by rw [kidsB]; rfl
  | k, t :: ts => by rw [kidsB, List.length_cons, kidsB_len p (k + 1) ts, List.length_cons]
theorem kidsB_get (p : List Nat) : ∀ (k : Nat) (ts : List Bt) (i : Nat) (h : i < ts.length), (kidsB p k ts)[i]? = some (p ++ [k + i], ts[i])
  | _, [], i, h => absurd h (Nat.not_lt_zero _)
  | k, t :: ts, 0, h => by
    rw [kidsB]
    rfl
  | k, t :: ts, i + 1, h => by
    rw [kidsB]
    have h' : i < ts.length := Nat.lt_of_succ_lt_succ h
    show (kidsB p (k + 1) ts)[i]? = some (p ++ [k + (i + 1)], ts[i])
    rw [kidsB_get p (k + 1) ts i h', show k + (i + 1) = k + 1 + i by omega]
theorem flatB_app (a b : List (List Nat × Bt)) : flatB (a ++ b) = flatB a ++ flatB b := List.flatMap_append
/-- how far a stack has to go -/
def stS (S : List (List Nat × Bt)) : Nat := (flatB S).length
theorem stS_app (a b : List (List Nat × Bt)) : stS (a ++ b) = stS a + stS b := by
  rw [stS, flatB_app, List.length_append]
  rfl
theorem stS_one (p : List Nat) (t : Bt) : stS [(p, t)] = t.sz := by
  rw [stS]
  show (t.met p ++ []).length = t.sz
  rw [List.append_nil, met_len]
theorem stS_rev : ∀ S : List (List Nat × Bt), stS S.reverse = stS S
  | [] => rfl
  | q :: S => by
    rw [List.reverse_cons, stS_app, stS_rev S, show q :: S = [q] ++ S from rfl, stS_app]
    omega
theorem len_stS : ∀ S : List (List Nat × Bt), S.length ≤ stS S
  | [] => Nat.zero_le _
  | (p, t) :: S => by
    rw [show (p, t) :: S = [(p, t)] ++ S from rfl, stS_app, stS_one, List.length_append]
    have a := len_stS S
    have b : 1 ≤ t.sz := by
      cases t <;> rw [Bt.sz] <;> omega
    show 1 + S.length ≤ _
    omega
theorem BtsV.put {K : PySem.W.Frag} {H : Hp} {sg : List (Str × Nat)} : ∀ {ts : List Bt} {us : List V} {k : Nat} (h : k < ts.length), BtsV K H sg ts us → ∃ v, us[k]? = some v ∧ BtV K H sg ts[k] v
  | [], us, k, h, _ => absurd h (Nat.not_lt_zero _)
  | t :: ts, us, 0, h, r => by
    rw [BtsV] at r
    obtain ⟨v, ws, rfl, a, _⟩ := r
    exact ⟨v, rfl, a⟩
  | t :: ts, us, k + 1, h, r => by
    rw [BtsV] at r
    obtain ⟨v, ws, rfl, _, b⟩ := r
    exact BtsV.put (k := k) (Nat.lt_of_succ_lt_succ h) b
theorem boks_get {sg : List (Str × Nat)} : ∀ {ts : List Bt} {k : Nat} (h : k < ts.length), boks sg ts → (ts[k]).ok sg
  | [], k, h, _ => absurd h (Nat.not_lt_zero _)
  | t :: ts, 0, h, o => by
    rw [boks] at o
    exact o.1
  | t :: ts, k + 1, h, o => by
    rw [boks] at o
    exact boks_get (k := k) (Nat.lt_of_succ_lt_succ h) o.2
/-- what is wrong in it, as data -/
def wrongL (l : List (List Nat × Bt)) : PyData := match l.find? (fun e => !e.2.fits) with
  | some e => .tuple [.str "term", .tuple (natsD e.1)]
  | none => if 60 < l.length then .tuple [.str "parts"] else .none
theorem wrongL_odd {a b : List (List Nat × Bt)} {e : List Nat × Bt} (h : ∀ x ∈ a, x.2.fits = true) (he : e.2.fits = false) : wrongL (a ++ e :: b) = .tuple [.str "term", .tuple (natsD e.1)] := by
  have f : (a ++ e :: b).find? (fun e => !e.2.fits) = some e := by
    rw [List.find?_append, List.find?_eq_none.mpr (fun x hx => by rw [h x hx]; decide)]
    rw [Option.none_or, List.find?_cons_of_pos (by rw [he]; rfl)]
  rw [wrongL, f]
theorem wrongL_fine {a : List (List Nat × Bt)} (h : ∀ x ∈ a, x.2.fits = true) : wrongL a = if 60 < a.length then .tuple [.str "parts"] else .none := by
  rw [wrongL, List.find?_eq_none.mpr (fun x hx => by rw [h x hx]; decide)]
section
variable {P : Program} {w : World} {K : PySem.W.Frag} {mg : Str → Option Value} {base : Heap} {σ : L2.St} {H H0 H' : Hp} {va : Addr} {sg : List (Str × Nat)}
/-- something on the stack: the thing as it stood at H0 -/
def SbV (K : PySem.W.Frag) (H0 H : Hp) (sg : List (Str × Nat)) (n : Nat) (u : V) (q : List Nat × Bt) : Prop := ∃ (a pa : Addr) (v : V), u = .ref a ∧ SqT K H a [.ref pa, v] ∧ SqT K H pa (q.1.map vi) ∧ q.1.length + q.2.sz ≤ n ∧ BtV K H0 sg q.2 v ∧ q.2.ok sg
theorem SbV.et {n : Nat} {u : V} {q : List Nat × Bt} (e : ET K H H') (h : SbV K H0 H sg n u q) : SbV K H0 H' sg n u q := let ⟨a, pa, v, z, s, p, l, tv⟩ := h; ⟨a, pa, v, z, e _ _ s, e _ _ p, l, tv⟩
def sp_wrong_any (K : PySem.W.Frag) : Sp := spX (fun (p : List (Str × Nat) × Bt) vs H => (∃ d v, vs = [.ref d, v] ∧ PlcX H d p.1 ∧ BtV K H p.1 p.2 v) ∧ p.2.ok p.1 ∧ (p.1.map (·.1)).Nodup ∧ p.2.sz ≤ 100) (fun p v H => Dp K H v (wrongL (p.2.met [])))
theorem c_wrong_any (T : Txt mg) (D : Df K mg "wrong_in_term" s_wrong_in_term ["places", "thing"]) (c_form_any : Cl P w K mg base 1 "has_term_form" (sp_form_any K)) : Cl P w K mg base 2 "wrong_in_term" (sp_wrong_any K) := by
  refine cl_of (k := 1) D sc_wrong_in_term (fun vs H Q E h => ?_) (fun f cdv A outer s H vs Q E hr h => ?_)
  · obtain ⟨p, ⟨⟨u, v, rfl, _⟩, _⟩, _⟩ := h
    rfl
  · obtain ⟨⟨sg, t⟩, ⟨⟨d, v, rfl, plc, tv⟩, ok, nd, small⟩, q⟩ := h
    have c_has_term_form := c_form_any
    refine ⟨_, (pss_cons (ps_set (i := 2) sc_wrong_in_term.nd rfl (.inl rfl) pe_int)
      (pss_cons (ps_set (i := 3) sc_wrong_in_term.nd rfl (.inl rfl) (pe_lst (pa_cons (pe_tup (pa_cons (pe_tup pa_nil) (pa_cons (pv 1) pa_nil))) pa_nil)))
      (pss_cons (ps_while PassesOwn.never (pt_truth (pv 3) (by intro _; rfl))
        (pss_cons (ps_asg (pe_bm0 PySem.F.plainAttrs_list PySem.F.slot_list_pop PySem.F.type_list_pop mt_pop (pv 3)) (pg_tup (by rfl) (pgs_cons (pg_name (i := 4) sc_wrong_in_term.nd rfl (.inl rfl)) (pgs_cons (pg_name (i := 5) sc_wrong_in_term.nd rfl (.inl rfl)) pgs_nil))))
        (pss_cons (ps_if (pt_not (pt_val (pe_cl c_has_term_form hr (by first | decide | omega) (by rfl) (pa_cons (pv 0) (pa_cons (pv 5) pa_nil)))))
          (pss_one (ps_ret (pe_tup (pa_cons pe_str (pa_cons (pv 4) pa_nil)))))
          pss_nil)
        (pss_cons (ps_aug (i := 2) sc_wrong_in_term.nd rfl (.inl rfl) pe_int ip_add)
        (pss_one (ps_if (pt_cmpR op_eq (pe_ix ix_tup (pv 5) pe_int (fun _ _ => rfl)) pe_str (nomark _))
          (pss_one (ps_for PassesOwn.never (by rfl) (pi_revR (by rfl) T.z_reversed (prg_1 (by rfl) T.z_range (pe_callB call_len_seq (by rfl) T.z_len PySem.boot_len (pa_cons (pe_ix ix_tup (pv 5) pe_int (fun _ _ => rfl)) pa_nil)))) (pg_name (i := 6) sc_wrong_in_term.nd rfl (.inl rfl))
            (pss_one (ps_expr (pe_bm PySem.F.plainAttrs_list PySem.F.slot_list_append PySem.F.type_list_append mt_append (pv 3) (pa_cons (pe_tup (pa_cons (pe_op op_catA (pv 4) (pe_tup (pa_cons (pv 6) pa_nil))) (pa_cons (pe_ix ix_tup (pe_ix ix_tup (pv 5) pe_int (fun _ _ => rfl)) (pv 6) (fun _ _ => rfl)) pa_nil))) pa_nil))))))
          pss_nil))))))
      (pss_one (ps_ret (pe_ifExp (pt_cmpR op_gt (pv 2) (pe_gi (by rfl) T.c_MOST_PARTS) (nomark _)) (pe_tup (pa_cons pe_str pa_nil)) pe_non)))))), ?_⟩
    replace plc : PlcX H d sg := plc
    replace tv : BtV K H sg t v := tv
    replace ok : t.ok sg := ok
    replace small : t.sz ≤ 100 := small
    replace nd : (sg.map (·.1)).Nodup := nd
    replace q : ∀ r H', Ex H H' → Dp K H' r (wrongL (t.met [])) → Q r H' := q
    refine q_asg (v := vi 0) ev_c fun H4 e4 => ?_
    refine do_set (do_lst (do_cons (do_tup (do_cons (do_tup (do_nil ⟨Nat.zero_le _, fun p1 n1 => do_cons (do_ev (ev_var rfl) fun H5 e5 => do_nil ⟨by show 2 ≤ sizeLine; decide, fun p2 n2 => do_nil ⟨by show 1 ≤ sizeLine; decide, fun td ntd => ?_⟩⟩)⟩))))))
    have e45 : Ex H4 H5 := (Ex.new n1).trans e5
    have x6 : Ex H (upd H5 p2 (.tup [.ref p1, v])) := (e4.trans e45).trans (Ex.new n2)
    have s2 : SqT K (upd H5 p2 (.tup [.ref p1, v])) p2 [.ref p1, v] := st_of upd_same
    have s1 : SqT K (upd H5 p2 (.tup [.ref p1, v])) p1 [] := st_of (Ex.new n2 _ _ (e5 _ _ upd_same))
    generalize upd H5 p2 (.tup [.ref p1, v]) = H6 at *
    have nt3 : H td = none := fresh_back x6 ntd
    have et7 : ET K H6 (upd H6 td (.lst [.ref p2])) := Dw.Ex.et (Ex.new ntd)
    show tSeq _ _ _ [some (.ref d), some v, some (vi 0), some (.ref td), none, none, none] (upd H6 td (.lst [.ref p2]))
    refine q_while (fun k σ H' => Ex H H' ∧ ∃ (S : List (List Nat × Bt)) (us : List V) (dn : List (List Nat × Bt)) (y5 y6 y7 : Option V), k = stS S ∧ H' td = some (.lst us) ∧ Paired (SbV K H H' sg t.sz) us S ∧ (∀ x ∈ dn, x.2.fits = true) ∧ dn ++ flatB S.reverse = t.met [] ∧ σ = [some (.ref d), some v, some (vi dn.length), some (.ref td), y5, y6, y7]) (stS [([], t)])
      ⟨x6.trans (Ex.new ntd), [([], t)], [.ref p2], [], none, none, none, rfl, upd_same, .cons (SbV.et et7 ⟨p2, p1, v, rfl, s2, s1, by show 0 + t.sz ≤ t.sz; omega, tv, ok⟩) .nil, fun x hx => (by cases hx), by show [] ++ (t.met [] ++ []) = t.met []; rw [List.append_nil, List.nil_append], rfl⟩ (fun k σ H7 hW => ?_)
    obtain ⟨e7, S, us, dn, y5, y6, y7, ek, hus, prs, fine, tot, hσ⟩ := hW
    subst hσ
    subst ek
    have lu := paired_len prs
    have ls := len_stS S
    have lt := congrArg List.length tot
    rw [List.length_append, met_len] at lt
    have lt2 : (flatB S.reverse).length = stS S := stS_rev S
    refine ⟨_, et_truL (K := K) (ev_var rfl) (sq_of hus), fun hb H8 e8 => ?_, fun hb H8 e8 => ?_⟩
    · have ne : S ≠ [] := fun z => by
        subst z
        cases prs
        cases hb
      obtain ⟨ws, u', b, q', rfl, rfl, pb, pt⟩ := paired_last prs ne
      refine ⟨fun σ' H' => ∃ k', k' < stS (b ++ [q']) ∧ Ex H H' ∧ ∃ (S : List (List Nat × Bt)) (us : List V) (dn : List (List Nat × Bt)) (y5 y6 y7 : Option V), k' = stS S ∧ H' td = some (.lst us) ∧ Paired (SbV K H H' sg t.sz) us S ∧ (∀ x ∈ dn, x.2.fits = true) ∧ dn ++ flatB S.reverse = t.met [] ∧ σ' = [some (.ref d), some v, some (vi dn.length), some (.ref td), y5, y6, y7], fun σ2 H5 ⟨k', lt, r⟩ => ⟨k', lt, r⟩, ?_⟩
      refine do_setG (do_pop (e8 _ _ hus) (ev_var rfl) fun H9 e9 => ?_)
      have e79 := e8.trans e9
      have et10 : ET K H7 (upd H9 td (.lst ws)) := ET.trans (Dw.Ex.et e79) (ET.refl.upd (e79 _ _ hus))
      have x10 : Ex H (upd H9 td (.lst ws)) := (e7.trans e79).mut nt3
      have td10 : (upd H9 td (.lst ws)) td = some (.lst ws) := upd_same
      have pb10 := paired_imp (fun _ _ z => SbV.et et10 z) pb
      have pt10 := SbV.et et10 pt
      generalize upd H9 td (.lst ws) = H10 at *
      obtain ⟨p, t'⟩ := q'
      obtain ⟨aa, pa, vv, rfl, sa, sp, lx, tvv, okt⟩ := pt10
      replace sp : SqT K H10 pa (p.map vi) := sp
      replace lx : p.length + t'.sz ≤ t.sz := lx
      replace tvv : BtV K H sg t' vv := tvv
      replace okt : t'.ok sg := okt
      refine ⟨aa, _, rfl, sa, rfl, _, _, rfl, _, _, rfl, rfl, ?_⟩
      show tSeq _ _ _ [some (.ref d), some v, some (vi dn.length), some (.ref td), some (.ref pa), some vv, y7] H10
      rw [List.reverse_append, List.reverse_singleton, flatB_app] at tot
      have one1 : flatB [(p, t')] = t'.met p := by
        show t'.met p ++ [] = _
        rw [List.append_nil]
      rw [one1] at tot
      have meas : stS (b ++ [(p, t')]) = stS b + t'.sz := by rw [stS_app, stS_one]
      have lb := len_stS b
      have lw := paired_len pb10
      have test : EvT (tNot (tB (tCall (sp_form_any K) [] E0 (tCons (tVar 0) (tCons (tVar 5) tNil))))) [some (.ref d), some v, some (vi dn.length), some (.ref td), some (.ref pa), some vv, y7] H10 (!t'.fits) := et_not (et_val (ev_callV (v := .bl t'.fits) (sg, t') (ea_cons (ev_var rfl) (ea_cons (ev_var rfl) ea_nil)) (fun H11 e11 => ⟨⟨_, _, rfl, plc.ex (x10.trans e11), tvv.ex (x10.trans e11)⟩, okt, nd⟩) (fun _ _ p => p)))
      by_cases ft : t'.fits = true
      · refine q_when (b := false) (et_is test (by rw [ft]; rfl)) (fun hb => by cases hb) (fun _ H11 e11 => ?_)
        refine q_aug (a := (dn.length : Int)) (b := 1) rfl ev_c fun H12 e12 => ?_
        have en : V.int ((dn.length : Int) + 1) = vi (dn.length + 1) := by
          show _ = V.int (((dn.length + 1 : Nat)) : Int)
          rw [Int.natCast_add]
          rfl
        show tIfS _ _ _ _ [some (.ref d), some v, some (V.int ((dn.length : Int) + 1)), some (.ref td), some (.ref pa), some vv, y7] H12
        rw [en]
        have e1012 := e11.trans e12
        have x12 : Ex H H12 := x10.trans e1012
        have td12 : H12 td = some (.lst ws) := e1012 _ _ td10
        have pb12 := paired_imp (fun _ _ z => SbV.et (Dw.Ex.et e1012) z) pb10
        have sp12 := ex_t e1012 sp
        have fine2 : ∀ x ∈ dn ++ [(p, t')], x.2.fits = true := fun x hx => by
          rcases List.mem_append.mp hx with z | z
          · exact fine x z
          · rw [List.mem_singleton.mp z]
            exact ft
        have ld : (dn ++ [(p, t')]).length = dn.length + 1 := by rw [List.length_append]; rfl
        cases t' with
        | odd dd => cases ft
        | var x =>
          have tv12 := tvv.ex x12
          rw [BtV] at tv12
          obtain ⟨c, rfl, hc⟩ := tv12
          refine s_when (b := false) (et_is (et_test (ev_op (ev_op (ev_var rfl) ev_c (rv_ixT (K := K) hc (atI_vi (k := 0) rfl))) ev_c (rv_eq rfl))) (by decide)) (fun hb => by cases hb) (fun _ H13 e13 => ?_)
          refine ⟨stS b, by rw [meas, Bt.sz]; omega, x12.trans e13, b, ws, dn ++ [(p, .var x)], _, _, _, rfl, e13 _ _ td12, paired_imp (fun _ _ z => SbV.et (Dw.Ex.et e13) z) pb12, fine2, ?_, by rw [ld]⟩
          rw [← tot, Bt.met, List.append_assoc]
        | deed g ts =>
          rw [BtV] at tvv
          rw [Bt.ok] at okt
          obtain ⟨c, cc, vs, rfl, hcH, hccH, tvs0⟩ := tvv
          have hc := ex_t x12 hcH
          have hcc := ex_t x12 hccH
          have lvs := tvs0.len
          have lts := len_bszs ts
          rw [Bt.sz] at lx meas
          obtain ⟨kq, hkq⟩ : ∃ kq, kq = kidsB p 0 ts := ⟨_, rfl⟩
          have lkq : kq.length = ts.length := by rw [hkq, kidsB_len]
          refine s_when (b := true) (et_is (et_test (ev_op (ev_op (ev_var rfl) ev_c (rv_ixT (K := K) hc (atI_vi (k := 0) rfl))) ev_c (rv_eq rfl))) (by decide)) (fun _ H13 e13 => ?_) (fun hb => by cases hb)
          have hc13 := ex_t e13 hc
          have hcc13 := ex_t e13 hcc
          refine s_forRev (n := ts.length) (ev_is (ev_lenT (K := K) (ev_op (ev_var rfl) ev_c (rv_ixT (K := K) hc13 (atI_vi (k := 2) rfl))) hcc13) (by rw [lvs])) (by omega) (fun i σ' H' => Ex H H' ∧ ET K H13 H' ∧ ∃ (us : List V) (y7 : Option V), H' td = some (.lst us) ∧ Paired (SbV K H H' sg t.sz) us (b ++ kq.reverse.take i) ∧ σ' = [some (.ref d), some v, some (vi (dn.length + 1)), some (.ref td), some (.ref pa), some (.ref c), y7])
            (fun H14 e14 => ⟨(x12.trans e13).trans e14, Dw.Ex.et e14, ws, _, (e13.trans e14) _ _ td12, by rw [List.take_zero, List.append_nil]; exact paired_imp (fun _ _ z => SbV.et (Dw.Ex.et (e13.trans e14)) z) pb12, rfl⟩) (fun i σ' H14 hi hP => ?_) (fun σ' H14 hP => ?_)
          · obtain ⟨x14, et14, us', y7', td14, p14, hσ⟩ := hP
            subst hσ
            have ln := paired_len p14
            have kl : ts.length - 1 - i < ts.length := by omega
            have e5 : List.length (kq.reverse.take i) ≤ ts.length := by rw [List.length_take, List.length_reverse]; omega
            rw [List.length_append] at ln
            have hc14 := et14 _ _ hc13
            have hcc14 := et14 _ _ hcc13
            have sp14 := et14 _ _ (ex_t e13 sp12)
            obtain ⟨cv, hcv, tcv⟩ := tvs0.put kl
            have szc : (ts[ts.length - 1 - i]).sz ≤ bszs ts := bsz_le (List.getElem?_eq_getElem kl)
            show tDrop _ _ [some (.ref d), some v, some (vi (dn.length + 1)), some (.ref td), some (.ref pa), some (.ref c), some (vi (ts.length - 1 - i))] H14
            have pv : Ev (tVar 4) [some (.ref d), some v, some (vi (dn.length + 1)), some (.ref td), some (.ref pa), some (.ref c), some (vi (ts.length - 1 - i))] H14 (.ref pa) := ev_var rfl
            have kv : Ev (tVar 6) [some (.ref d), some v, some (vi (dn.length + 1)), some (.ref td), some (.ref pa), some (.ref c), some (vi (ts.length - 1 - i))] H14 (vi (ts.length - 1 - i)) := ev_var rfl
            have cat := ep_cat (K := K) (xs := p.map vi) (ys := [vi (ts.length - 1 - i)]) (ep_ev (P := fun v H' => TupV K H' v (p.map vi)) pv (fun H' e' => ⟨pa, rfl, ex_t e' sp14⟩)) (ep_tup1 (K := K) kv) (by rw [List.length_map]; show p.length + 1 ≤ 100000; omega)
            refine do_app td14 (ev_var rfl) fun H15 e15 => do_tup (do_cons (cat H15 e15 _ fun pv2 H16 e16 hpv => do_cons (do_ev (ev_op (ev_op (ev_var rfl) ev_c (rv_ixT (K := K) (ex_t (e15.trans e16) hc14) (atI_vi (k := 2) rfl))) (ev_var rfl) (rv_ixT (K := K) (ex_t (e15.trans e16) hcc14) (atI_vi (k := ts.length - 1 - i) hcv))) fun H20 e20 => do_nil ⟨by show 2 ≤ sizeLine; decide, fun r nr => ?_⟩)))
            obtain ⟨pa2, rfl, spa2⟩ := hpv
            have x21 : Ex H14 (upd H20 r (.tup [.ref pa2, cv])) := ((e15.trans e16).trans e20).trans (Ex.new nr)
            have td21 : (upd H20 r (.tup [.ref pa2, cv])) td = some (.lst us') := x21 _ _ td14
            have r21 : (upd H20 r (.tup [.ref pa2, cv])) r = some (.tup [.ref pa2, cv]) := upd_same
            have sp21 := ex_t (e20.trans (Ex.new nr (o := .tup [.ref pa2, cv]))) spa2
            refine ⟨td, us', .ref r, rfl, rfl, td21, sz_lt (by omega), (x14.trans x21).mut nt3, ET.trans et14 (ET.trans (Dw.Ex.et x21) (ET.refl.upd td21)), us' ++ [.ref r], _, upd_same, ?_, rfl⟩
            have et22 : ET K H14 (upd (upd H20 r (.tup [.ref pa2, cv])) td (.lst (us' ++ [.ref r]))) := ET.trans (Dw.Ex.et x21) (ET.refl.upd td21)
            have et23 : ET K (upd H20 r (.tup [.ref pa2, cv])) (upd (upd H20 r (.tup [.ref pa2, cv])) td (.lst (us' ++ [.ref r]))) := ET.refl.upd td21
            have hr2 : kq.reverse[i]? = some (p ++ [ts.length - 1 - i], ts[ts.length - 1 - i]) := by
              rw [List.getElem?_reverse (by omega), lkq, hkq, kidsB_get p 0 ts _ kl, Nat.zero_add]
            rw [List.take_add_one, hr2, ← List.append_assoc]
            refine Dw.paired_snoc (R := SbV K H (upd (upd H20 r (.tup [.ref pa2, cv])) td (.lst (us' ++ [.ref r]))) sg t.sz) (y := (p ++ [ts.length - 1 - i], ts[ts.length - 1 - i])) ⟨r, pa2, cv, rfl, et23 _ _ (st_of r21), ?_, ?_, tcv, boks_get kl okt.2⟩ (paired_imp (fun _ _ z => SbV.et et22 z) p14)
            · show SqT K _ pa2 ((p ++ [ts.length - 1 - i]).map vi)
              rw [List.map_append]
              exact et23 _ _ sp21
            · show (p ++ [ts.length - 1 - i]).length + (ts[ts.length - 1 - i]).sz ≤ t.sz
              rw [List.length_append, List.length_singleton]
              omega
          · obtain ⟨x14, et14, us', y7', td14, p14, hσ⟩ := hP
            subst hσ
            have full : kq.reverse.take ts.length = kq.reverse := List.take_of_length_le (by rw [List.length_reverse, lkq]; exact Nat.le_refl _)
            rw [full] at p14
            have mk : stS kq = bszs ts := by rw [stS, hkq, kidsB_flat, mets_len]
            refine ⟨stS (b ++ kq.reverse), by rw [meas, stS_app, stS_rev, mk]; omega, x14, b ++ kq.reverse, us', dn ++ [(p, .deed g ts)], _, _, _, rfl, td14, p14, fine2, ?_, by rw [ld]⟩
            rw [← tot, List.reverse_append, List.reverse_reverse, flatB_app, hkq, kidsB_flat, Bt.met, List.append_assoc]
            rfl
      · have ff : t'.fits = false := by
          cases h : t'.fits with
          | true => exact absurd h ft
          | false => rfl
        have metp : t'.met p = [(p, t')] := by
          cases t' with
          | var x => cases ff
          | deed g ts => cases ff
          | odd dd => rw [Bt.met]
        rw [metp] at tot
        have res : wrongL (t.met []) = .tuple [.str "term", .tuple (natsD p)] := by
          rw [← tot, List.singleton_append]
          exact wrongL_odd (e := (p, t')) fine ff
        refine q_when (b := true) (et_is test (by rw [ff]; rfl)) (fun _ H11 e11 => ?_) (fun hb => by cases hb)
        refine do_ret (do_tup (do_cons (do_ev ev_c fun H12 e12 => do_cons (do_ev (ev_var rfl) fun H13 e13 => do_nil ⟨by show 2 ≤ sizeLine; decide, fun r nr => ?_⟩))))
        refine q _ _ (x10.trans ((e11.trans (e12.trans e13)).trans (Ex.new nr))) ?_
        rw [res]
        exact .tup (st_of upd_same) (.cons (.str _) (.cons (.tup (ex_t ((e11.trans (e12.trans e13)).trans (Ex.new nr)) sp) (dps_vi p)) .nil))
    · have no : S = [] := by
        cases us with
        | nil => exact List.length_eq_zero_iff.mp lu.symm
        | cons _ _ => cases hb
      subst no
      have all : dn = t.met [] := by
        rw [← tot]
        show dn = dn ++ []
        rw [List.append_nil]
      have res := wrongL_fine fine
      rw [all] at res
      have ldn : dn.length = (t.met []).length := by rw [all]
      by_cases big : 60 < (t.met []).length
      · rw [if_pos big] at res
        exact do_ret (do_if (b := true) (et_is (et_test (ev_op (ev_var rfl) ev_c rv_I0)) (decide_eq_true (by show ((dn.length : Int) > 60); omega))) (fun _ H9 e9 => do_tup (do_cons (do_ev ev_c fun H10 e10 => do_nil ⟨by show 1 ≤ sizeLine; decide, fun r nr => q _ _ ((e7.trans (e8.trans (e9.trans e10))).trans (Ex.new nr)) (by
          rw [res]
          exact .tup (st_of upd_same) (.cons (.str _) .nil))⟩))) (fun z => by cases z))
      · rw [if_neg big] at res
        exact do_ret (do_if (b := false) (et_is (et_test (ev_op (ev_var rfl) ev_c rv_I0)) (decide_eq_false (by show ¬ ((dn.length : Int) > 60); omega))) (fun z => by cases z) (fun _ H9 e9 => do_ev ev_c fun H10 e10 => q _ _ (e7.trans (e8.trans (e9.trans e10))) (by
          rw [res]
          exact .non)))
end
end K11
end
section
namespace K11
open PySem PySem.Spec PyProof.Rows L2 Evl RZ Dw M20
theorem kvs_keys {sg : List (Str × Nat)} {x : Str} (h : (Sum.inr x : Key) ∈ (kvsOf sg).map (·.1)) : x ∈ sg.map (·.1) := by
  obtain ⟨kv, hk, e⟩ := List.mem_map.mp h
  obtain ⟨p, hp, e2⟩ := List.mem_map.mp hk
  rw [← e2] at e
  have e3 : (Sum.inr p.1 : Key) = Sum.inr x := e
  injection e3 with e3
  rw [← e3]
  exact List.mem_map_of_mem hp
theorem kvs_nodup : ∀ {sg : List (Str × Nat)}, (sg.map (·.1)).Nodup → ((kvsOf sg).map (·.1)).Nodup
  | [], _ => List.Pairwise.nil
  | p :: sg, h => by
    rw [List.map_cons, List.nodup_cons] at h
    show (Sum.inr p.1 :: (kvsOf sg).map (·.1)).Nodup
    rw [List.nodup_cons]
    exact ⟨fun z => h.1 (kvs_keys z), kvs_nodup h.2⟩
section
variable {P : Program} {w : World} {K : PySem.W.Frag} {mg : Str → Option Value} {base : Heap} {σ : L2.St} {H : Hp} {P0 B0 T0 G0 : Addr} {va : Addr}
def BPre (K : PySem.W.Frag) (p : List (Str × Nat) × Bt) (vs : List V) (H : Hp) : Prop := (∃ u v, vs = [u, v] ∧ FSig K H u p.1 ∧ BtV K H p.1 p.2 v) ∧ SigOk p.1 ∧ p.2.ok p.1 ∧ p.2.sz ≤ 100
def sp_term_any (K : PySem.W.Frag) : Sp := spX (BPre K) (fun p v H => Dp K H v (wrongL (p.2.met [])))
theorem c_term_any (T : Txt mg) (D : Df K mg "term_wrong" s_term_wrong ["signature", "thing"]) (c_need_signature : Cl P w K mg base 5 "need_signature" (sp_need_signature K)) (c_wrong_any : Cl P w K mg base 2 "wrong_in_term" (sp_wrong_any K)) : Cl P w K mg base 6 "term_wrong" (sp_term_any K) := by
  refine cl_of (k := 5) D sc_term_wrong (fun vs H Q E h => ?_) (fun f cdv A outer s H vs Q E hr h => ?_)
  · obtain ⟨p, ⟨⟨u, v, rfl, _⟩, _⟩, _⟩ := h
    rfl
  · obtain ⟨⟨sg, t⟩, ⟨⟨u, v, rfl, hF, tv⟩, sok, ok, small⟩, q⟩ := h
    have c_wrong_in_term := c_wrong_any
    refine ⟨_, (pss_cons (ps_expr (pe_cl c_need_signature hr (by first | decide | omega) (by rfl) (pa_cons (pv 0) pa_nil)))
      (pss_one (ps_ret (pe_cl c_wrong_in_term hr (by first | decide | omega) (by rfl) (pa_cons (pe_callTy (call_dictT rfl) (by rfl) T.z_dict (by decide +kernel) (pa_cons (pv 0) pa_nil)) (pa_cons (pv 1) pa_nil)))))), ?_⟩
    replace hF : FSig K H u sg := hF
    replace tv : BtV K H sg t v := tv
    replace sok : SigOk sg := sok
    replace ok : t.ok sg := ok
    replace small : t.sz ≤ 100 := small
    refine q_drop (ev_callV (v := .non) sg (ea_cons (ev_var rfl) ea_nil) (fun H1 e1 => ⟨⟨_, rfl, (hF.ex e1).sig⟩, sok⟩) (fun _ _ p => p)) fun H1 e1 => ?_
    obtain ⟨a, o, ps, rfl, ha, od, pr⟩ := hF.ex e1
    refine do_ret (do_cons (do_cb (do_cons (do_ev (ev_var rfl) fun H2 e2 => ?_))))
    refine ⟨a, o, ps, kvsOf sg, rfl, e2 _ _ ha, od, paired_mapR (f := fun d : Str × Nat => ((Sum.inr d.1 : Key), vi d.2)) (fun _ _ z => ex_t e2 z) pr, fun d nd => ?_⟩
    have x3 : Ex H (upd H2 d (.dK (mergeK [] (kvsOf sg)))) := (e1.trans e2).trans (Ex.new nd)
    have nds : ((([] : List (Key × V)) ++ kvsOf sg).map (·.1)).Nodup := by
      rw [List.nil_append]
      exact kvs_nodup sok.nd
    have plc : PlcX (upd H2 d (.dK (mergeK [] (kvsOf sg)))) d sg := ⟨_, upd_same, fun p hp => val_merge sg [] p.1 p.2 sok.nd (.inl hp), fun x hx => by
      rw [merge_new nds, List.nil_append]
      exact val_none fun z => hx (kvs_keys z)⟩
    generalize upd H2 d (.dK (mergeK [] (kvsOf sg))) = H3 at *
    refine do_cons (do_ev (ev_var rfl) fun H4 e4 => do_nil ?_)
    exact ⟨(sg, t), ⟨⟨d, v, rfl, plc.ex e4, tv.ex (x3.trans e4)⟩, ok, sok.nd, small⟩, fun v H' e p => q v H' (x3.trans (e4.trans e)) p⟩
end
end K11
end
section
namespace K11
open PySem PySem.Spec PyProof.Rows L2 Evl RZ Dw M20
section
variable {P : Program} {w : World} {K : PySem.W.Frag} {mg : Str → Option Value} {base : Heap} {σ : L2.St} {H : Hp} {va : Addr}
end
end K11
end
section
namespace K11
open PySem PySem.Spec PyProof.Rows L2 Evl RZ Dw M20
theorem bsz1 : ∀ t : Bt, 1 ≤ t.sz
  | .var x => by rw [Bt.sz]; exact Nat.le_refl _
  | .deed f ts => by rw [Bt.sz]; omega
  | .odd d => by rw [Bt.sz]; exact Nat.le_refl _
section
variable {P : Program} {w : World} {K : PySem.W.Frag} {mg : Str → Option Value} {base : Heap} {σ : L2.St} {H : Hp} {va : Addr} {sg : List (Str × Nat)}
def SmV (K : PySem.W.Frag) (H : Hp) (sg : List (Str × Nat)) (u : V) (e : List Nat × Bt) : Prop := ∃ (a b : Addr) (v : V), u = .ref a ∧ SqT K H a [.ref b, v] ∧ SqT K H b (e.1.map vi) ∧ BtV K H sg e.2 v
theorem SmV.ex {H' : Hp} {u : V} {e : List Nat × Bt} (x : Ex H H') (h : SmV K H sg u e) : SmV K H' sg u e := let ⟨a, b, v, h1, h2, h3, h4⟩ := h; ⟨a, b, v, h1, ex_t x h2, ex_t x h3, h4.ex x⟩
def SmsV (K : PySem.W.Frag) (H : Hp) (sg : List (Str × Nat)) (v : V) (es : List (List Nat × Bt)) : Prop := ∃ (l : Addr) (us : List V), v = .ref l ∧ H l = some (.lst us) ∧ Paired (SmV K H sg) us es
theorem SmsV.ex {H' : Hp} {u : V} {e : List (List Nat × Bt)} (x : Ex H H') (h : SmsV K H sg u e) : SmsV K H' sg u e := let ⟨a, us, h1, h2, h3⟩ := h; ⟨a, us, h1, x _ _ h2, paired_imp (fun _ _ z => z.ex x) h3⟩
end
end K11
end
section
namespace K11
open PySem PySem.Spec PyProof.Rows L2 Evl RZ Dw M20
section
variable {P : Program} {w : World} {K : PySem.W.Frag} {mg : Str → Option Value} {base : Heap} {σ : L2.St} {H : Hp} {va : Addr} {sg : List (Str × Nat)}
end
end K11
end
section
namespace K11
open PySem PySem.Spec PyProof.Rows L2 Evl RZ Dw M20
mutual
def Bt.data : Bt → PyData
  | .var x => .tuple [.str "var", .str x]
  | .deed f ts => .tuple [.str "deed", .str f, .tuple (bdatas ts)]
  | .odd d => d
def bdatas : List Bt → List PyData
  | [] => []
  | t :: ts => t.data :: bdatas ts
end
mutual
def Bt.fine : Bt → Prop
  | .var _ => True
  | .deed _ ts => bfines ts
  | .odd d => Gd 5 100 d
def bfines : List Bt → Prop
  | [] => True
  | t :: ts => t.fine ∧ bfines ts
end
theorem gd_deed {f : Str} {k W : Nat} {ds : List PyData} (gf : Gd 0 4 (.str f)) (lay : PyData.canLayAll0 ds = true) (dep : PyData.depthAll ds ≤ k) (wgt : PyData.weightAll ds ≤ W) (its : PyData.intsShortAll 13 ds = true) (sho : PyData.showableAll ds = true) : Gd (k + 2) (W + 12) (.tuple [.str "deed", .str f, .tuple ds]) := by
  have g1 : Gd 0 4 (.str ("deed" : Str)) := gd_strB (by decide) (by decide)
  have w1 := g1.wgt
  have w2 := gf.wgt
  have d1 := g1.dep
  have d2 := gf.dep
  refine ⟨?_, ?_, ?_, ?_, ?_⟩
  · rw [PyData.canLay0, PyData.canLayAll0, PyData.canLayAll0, PyData.canLayAll0, PyData.canLayAll0, g1.lay, gf.lay, PyData.canLay0, lay]
    rfl
  · rw [PyData.depth, PyData.depthAll, PyData.depthAll, PyData.depthAll, PyData.depthAll]
    have : PyData.depth (.tuple ds) = PyData.depthAll ds + 1 := by rw [PyData.depth]
    omega
  · rw [PyData.weight, PyData.weightAll, PyData.weightAll, PyData.weightAll, PyData.weightAll]
    have : PyData.weight (.tuple ds) = PyData.weightAll ds := by rw [PyData.weight]
    omega
  · rw [PyData.intsShort, PyData.intsShortAll, PyData.intsShortAll, PyData.intsShortAll, PyData.intsShortAll, g1.its, gf.its, PyData.intsShort, its]
    rfl
  · rw [PyData.showable, PyData.showableAll, PyData.showableAll, PyData.showableAll, PyData.showableAll, g1.sho, gf.sho, PyData.showable, sho]
    rfl
mutual
theorem gd_bt {sg : List (Str × Nat)} (so : SigOk sg) : ∀ t : Bt, t.ok sg → t.fine → Gd (2 * t.sz + 3) (110 * t.sz - 1) t.data
  | .var x, ok, _ => by
    rw [Bt.ok] at ok
    rw [Bt.sz, Bt.data]
    have g : Gd (0 + 1) (2 * (4 + 1)) (.tuple [.str "var", .str x]) := by
     refine gd_tup (k := 0) (W := 4) (L := 2) (fun d hd => ?_) (Nat.le_refl 2)
     simp only [List.mem_cons, List.not_mem_nil, or_false] at hd
     rcases hd with e | e
     · rw [e]
       exact gd_strB (by decide) (by decide)
     · rw [e]
       exact gd_strB (vars_cps4 x ok).1 (vars_cps4 x ok).2
    exact g.mono (by decide) (by decide)
  | .deed f ts, ok, fi => by
    rw [Bt.ok] at ok
    rw [Bt.fine] at fi
    rw [Bt.sz, Bt.data]
    have nm := so.nm _ ok.1
    obtain ⟨a, b, c, d, e⟩ := gd_bts so ts ok.2 fi
    exact (gd_deed (gd_strB (name_cps nm) nm.l4) a b c d e).mono (by omega) (by omega)
  | .odd d, _, fi => by
    rw [Bt.fine] at fi
    rw [Bt.sz, Bt.data]
    exact fi.mono (by decide) (by decide)
theorem gd_bts {sg : List (Str × Nat)} (so : SigOk sg) : ∀ ts : List Bt, boks sg ts → bfines ts → PyData.canLayAll0 (bdatas ts) = true ∧ PyData.depthAll (bdatas ts) ≤ 2 * bszs ts + 3 ∧ PyData.weightAll (bdatas ts) ≤ 110 * bszs ts ∧ PyData.intsShortAll 13 (bdatas ts) = true ∧ PyData.showableAll (bdatas ts) = true
  | [], _, _ => by
    rw [bdatas, bszs]
    exact ⟨by rw [PyData.canLayAll0], by rw [PyData.depthAll]; exact Nat.zero_le _, by rw [PyData.weightAll]; exact Nat.zero_le _, by rw [PyData.intsShortAll], by rw [PyData.showableAll]⟩
  | t :: ts, ok, fi => by
    rw [boks] at ok
    rw [bfines] at fi
    have g := gd_bt so t ok.1 fi.1
    obtain ⟨a, b, c, d, e⟩ := gd_bts so ts ok.2 fi.2
    have z := bsz1 t
    have g2 := g.dep
    have g3 := g.wgt
    rw [bdatas, bszs]
    refine ⟨?_, ?_, ?_, ?_, ?_⟩
    · rw [PyData.canLayAll0, g.lay, a]
      rfl
    · rw [PyData.depthAll]
      omega
    · rw [PyData.weightAll]
      omega
    · rw [PyData.intsShortAll, g.its, d]
      rfl
    · rw [PyData.showableAll, g.sho, e]
      rfl
end
section
variable {P : Program} {w : World} {K : PySem.W.Frag} {mg : Str → Option Value} {base : Heap} {σ : L2.St} {H H' : Hp} {va p c : Addr} {n : Nat} {sg : List (Str × Nat)}
mutual
theorem BtV.dp : ∀ {t : Bt} {v : V}, BtV K H sg t v → Dp K H v t.data
  | .var x, v, h => by
    rw [BtV] at h
    obtain ⟨a, rfl, s⟩ := h
    rw [Bt.data]
    exact .tup s (.cons (.str _) (.cons (.str _) .nil))
  | .deed f ts, v, h => by
    rw [BtV] at h
    obtain ⟨a, b, us, rfl, s, s2, r⟩ := h
    rw [Bt.data]
    exact .tup s (.cons (.str _) (.cons (.str _) (.cons (.tup s2 (BtsV.dp r)) .nil)))
  | .odd d, v, h => by
    rw [BtV] at h
    rw [Bt.data]
    exact h.1.dp
theorem BtsV.dp : ∀ {ts : List Bt} {vs : List V}, BtsV K H sg ts vs → DpAll K H vs (bdatas ts)
  | [], vs, h => by
    rw [BtsV] at h
    rw [h, bdatas]
    exact .nil
  | t :: ts, vs, h => by
    rw [BtsV] at h
    obtain ⟨v, us, rfl, a, b⟩ := h
    rw [bdatas]
    exact .cons (BtV.dp a) (BtsV.dp b)
end
mutual
theorem dp_off (pu : Pur H p c n) (o : Off H H' p c) : ∀ {v : V} {d : PyData}, Dp K H v d → noL d = true → Dp K H' v d
  | _, _, .non, _ => .non
  | _, _, .bl b, _ => .bl b
  | _, _, .int i, _ => .int i
  | _, _, .str x, _ => .str x
  | _, _, .lst _ _, h => by
    rw [noL] at h
    cases h
  | _, _, .tup s r, h => by
    rw [noL] at h
    exact .tup (o.et pu _ _ s) (dps_off pu o r h)
theorem dps_off (pu : Pur H p c n) (o : Off H H' p c) : ∀ {vs : List V} {ds : List PyData}, DpAll K H vs ds → noLs ds = true → DpAll K H' vs ds
  | _, _, .nil, _ => .nil
  | _, _, .cons a b, h => by
    rw [noLs, Bool.and_eq_true] at h
    exact .cons (dp_off pu o a h.1) (dps_off pu o b h.2)
end
theorem NoStr.off {v : V} (pu : Pur H p c n) (o : Off H H' p c) (h : NoStr K H v) : NoStr K H' v := by
  cases h with
  | non => exact .non
  | int i => exact .int i
  | tup h => exact .tup (o.et pu _ _ h)
theorem btv_var {a : Addr} {x : Str} (h : SqT K H a [.str "var", .str x]) : BtV K H sg (.var x) (.ref a) := by
  rw [BtV]
  exact ⟨a, rfl, h⟩
theorem btv_deed {a b : Addr} {f : Str} {ts : List Bt} {us : List V} (h : SqT K H a [.str "deed", .str f, .ref b]) (h2 : SqT K H b us) (h3 : BtsV K H sg ts us) : BtV K H sg (.deed f ts) (.ref a) := by
  rw [BtV]
  exact ⟨a, b, us, rfl, h, h2, h3⟩
theorem BtsV.app : ∀ {a b : List Bt} {us vs : List V}, BtsV K H sg a us → BtsV K H sg b vs → BtsV K H sg (a ++ b) (us ++ vs)
  | [], b, us, vs, h1, h2 => by
    rw [BtsV] at h1
    subst h1
    exact h2
  | t :: a, b, us, vs, h1, h2 => by
    rw [BtsV] at h1
    obtain ⟨v, ws, rfl, x, y⟩ := h1
    rw [List.cons_append, List.cons_append, BtsV]
    exact ⟨v, _, rfl, x, BtsV.app y h2⟩
theorem BtsV.one {t : Bt} {v : V} (h : BtV K H sg t v) : BtsV K H sg [t] [v] := by
  rw [BtsV]
  exact ⟨v, [], rfl, h, by rw [BtsV]⟩
theorem BtsV.nil : BtsV K H sg [] [] := by rw [BtsV]
theorem BtsV.take : ∀ {ts : List Bt} {us : List V} (k : Nat), BtsV K H sg ts us → BtsV K H sg (ts.take k) (us.take k)
  | [], us, k, h => by
    rw [BtsV] at h
    subst h
    rw [List.take_nil, List.take_nil]
    exact BtsV.nil
  | t :: ts, us, 0, h => BtsV.nil
  | t :: ts, us, k + 1, h => by
    rw [BtsV] at h
    obtain ⟨v, ws, rfl, x, y⟩ := h
    rw [List.take_succ_cons, List.take_succ_cons, BtsV]
    exact ⟨v, _, rfl, x, BtsV.take k y⟩
theorem BtsV.drop : ∀ {ts : List Bt} {us : List V} (k : Nat), BtsV K H sg ts us → BtsV K H sg (ts.drop k) (us.drop k)
  | [], us, k, h => by
    rw [BtsV] at h
    subst h
    rw [List.drop_nil, List.drop_nil]
    exact BtsV.nil
  | t :: ts, us, 0, h => h
  | t :: ts, us, k + 1, h => by
    rw [BtsV] at h
    obtain ⟨v, ws, rfl, x, y⟩ := h
    exact BtsV.drop k y
end
mutual
def Tm.bt : Tm → Bt
  | .var x => .var x
  | .deed f ts => .deed f (bts ts)
def bts : List Tm → List Bt
  | [] => []
  | t :: ts => t.bt :: bts ts
end
theorem bts_len : ∀ ts : List Tm, (bts ts).length = ts.length
  | [] => by rw [bts]; rfl
  | t :: ts => by rw [bts, List.length_cons, bts_len ts, List.length_cons]
mutual
theorem bt_all {K : PySem.W.Frag} {H : Hp} {sg : List (Str × Nat)} : ∀ (t : Tm) {v : V}, TmV K H t v → t.ok sg → BtV K H sg t.bt v ∧ t.bt.ok sg ∧ t.bt.fine ∧ t.bt.sz = t.sz
  | .var x, v, h, ok => by
    rw [TmV] at h
    rw [Tm.ok] at ok
    rw [Tm.bt, BtV, Bt.ok, Bt.fine, Bt.sz, Tm.sz]
    exact ⟨h, ok, trivial, rfl⟩
  | .deed f ts, v, h, ok => by
    rw [TmV] at h
    rw [Tm.ok] at ok
    obtain ⟨a, b, us, q, s, s2, r⟩ := h
    obtain ⟨x, y, z, u⟩ := bts_all ts r ok.2
    rw [Tm.bt, BtV, Bt.ok, Bt.fine, Bt.sz, Tm.sz, bts_len, u]
    exact ⟨⟨a, b, us, q, s, s2, x⟩, ⟨ok.1, y⟩, z, rfl⟩
theorem bts_all {K : PySem.W.Frag} {H : Hp} {sg : List (Str × Nat)} : ∀ (ts : List Tm) {vs : List V}, TmsV K H ts vs → oks sg ts → BtsV K H sg (bts ts) vs ∧ boks sg (bts ts) ∧ bfines (bts ts) ∧ bszs (bts ts) = szs ts
  | [], vs, h, ok => by
    rw [TmsV] at h
    rw [bts, BtsV, boks, bfines, bszs, szs]
    exact ⟨h, trivial, trivial, rfl⟩
  | t :: ts, vs, h, ok => by
    rw [TmsV] at h
    rw [oks] at ok
    obtain ⟨v, us, q, a, b⟩ := h
    obtain ⟨x, y, z, u⟩ := bt_all t a ok.1
    obtain ⟨x2, y2, z2, u2⟩ := bts_all ts b ok.2
    rw [bts, BtsV, boks, bfines, bszs, szs, u, u2]
    exact ⟨⟨v, us, q, x, x2⟩, ⟨y, y2⟩, ⟨z, z2⟩, rfl⟩
end
end K11
end
section
namespace K11
open PySem PySem.Spec PyProof.Rows L2 Evl RZ Dw M20
section
variable {P : Program} {w : World} {K : PySem.W.Frag} {mg : Str → Option Value} {base : Heap} {σ : L2.St} {H H' : Hp} {va p c : Addr} {n : Nat} {sg : List (Str × Nat)}
/-! bent things as they are built -/
def TpB (K : PySem.W.Frag) (sg : List (Str × Nat)) (ts : List Bt) (v : V) (H : Hp) : Prop := ∃ a vs, v = .ref a ∧ SqT K H a vs ∧ BtsV K H sg ts vs
theorem TpB.ex {ts : List Bt} {v : V} (e : Ex H H') (h : TpB K sg ts v H) : TpB K sg ts v H' := let ⟨a, vs, q, s, r⟩ := h; ⟨a, vs, q, ex_t e s, r.ex e⟩
/-! long ones -/
/-! another one laid -/
end
end K11
end
section
namespace K11
open PySem PySem.Spec PyProof.Rows L2 Evl RZ Dw M20
theorem gd_strN {z : Str} {n : Nat} (h : ∀ c ∈ z.cps.toList, c < 0x110000) (l : z.cps.size ≤ n) (l2 : n ≤ 100) : Gd 0 n (.str z) := by
  have g := gd_str h (Nat.le_trans l l2)
  exact ⟨g.lay, g.dep, by rw [PyData.weight]; exact l, g.its, g.sho⟩
theorem gd_small {ds : List PyData} (h : ∀ d ∈ ds, Gd 3 22 d) (l : ds.length ≤ 4) : Gd 5 100 (.tuple ds) := (gd_tup h l).mono (by decide) (by decide)
theorem gd_smallL {ds : List PyData} (h : ∀ d ∈ ds, Gd 3 22 d) (l : ds.length ≤ 4) : Gd 5 100 (.list ds) := (gd_lst h l).mono (by decide) (by decide)
theorem gd_s {z : Str} (h : (∀ c ∈ z.cps.toList, c < 0x110000) ∧ z.cps.size ≤ 22) : Gd 3 22 (.str z) := (gd_strN h.1 h.2 (by decide)).mono (by decide) (Nat.le_refl _)
theorem gd_none : Gd 3 22 .none := ⟨by rw [PyData.canLay0], by rw [PyData.depth]; decide, by rw [PyData.weight]; decide, by rw [PyData.intsShort], by rw [PyData.showable]⟩
theorem gd_bool (b : Bool) : Gd 3 22 (.bool b) := ⟨by rw [PyData.canLay0], by rw [PyData.depth]; decide, by rw [PyData.weight]; decide, by rw [PyData.intsShort], by rw [PyData.showable]⟩
def leafD (x : Str) : PyData := .tuple [.str "var", .str x]
theorem gd_leaf {x : Str} (h : x ∈ vars) : Gd 1 6 (leafD x) := by
  have a := gd_strN (z := ("var" : Str)) (n := 3) (by decide) (by decide) (by decide)
  have v1 : ∀ x ∈ vars, (∀ c ∈ x.cps.toList, c < 0x110000) ∧ x.cps.size ≤ 1 := by decide +kernel
  have b := gd_strN (z := x) (n := 1) (v1 x h).1 (v1 x h).2 (by decide)
  have g := gd_tup (k := 0) (W := 3) (L := 2) (ds := [.str "var", .str x]) (fun d hd => by
    simp only [List.mem_cons, List.not_mem_nil, or_false] at hd
    rcases hd with e | e
    · rw [e]; exact a
    · rw [e]; exact b.mono (Nat.le_refl _) (by decide)) (Nat.le_refl 2)
  refine ⟨g.lay, g.dep, ?_, g.its, g.sho⟩
  have w1 := a.wgt
  have w2 := b.wgt
  rw [leafD, PyData.weight, PyData.weightAll, PyData.weightAll, PyData.weightAll]
  omega
theorem gd_leaves {x : Str} {k : Nat} (h : x ∈ vars) (k3 : k ≤ 3) : (∀ d ∈ List.replicate k (leafD x), Gd 1 6 d) ∧ (List.replicate k (leafD x)).length ≤ 3 := ⟨fun d hd => by rw [List.eq_of_mem_replicate hd]; exact gd_leaf h, by rw [List.length_replicate]; exact k3⟩
theorem gd_leavesT {x : Str} {k : Nat} (h : x ∈ vars) (k3 : k ≤ 3) : Gd 3 22 (.tuple (List.replicate k (leafD x))) := (gd_tup (gd_leaves h k3).1 (gd_leaves h k3).2).mono (by decide) (by decide)
theorem noL_leaf (x : Str) : ∀ k, noLs (List.replicate k (leafD x)) = true
  | 0 => rfl
  | k + 1 => by
    rw [List.replicate_succ, noLs, noL_leaf x k]
    rfl
theorem strOk_of {z : Str} {k W : Nat} (g : Gd k W (.str z)) : PyData.strOk z = true := by
  have := g.lay
  simpa [PyData.canLay0] using this
theorem six_mem {k d : Nat} (h : ("uvwxyz" : Str).cps[k]? = some d) : (⟨#[d]⟩ : Str) ∈ vars := by
  have l : k < 6 := (Array.getElem?_eq_some_iff.mp h).1
  have : k = 0 ∨ k = 1 ∨ k = 2 ∨ k = 3 ∨ k = 4 ∨ k = 5 := by omega
  rcases this with rfl | rfl | rfl | rfl | rfl | rfl <;> (cases h; decide)
section
variable {P : Program} {w : World} {K : PySem.W.Frag} {mg : Str → Option Value} {base : Heap} {σ : L2.St} {H H' : Hp} {va p c : Addr} {n : Nat} {sg : List (Str × Nat)}
/-- something to lay -/
def ThB (K : PySem.W.Frag) (H : Hp) (sg : List (Str × Nat)) (v : V) : Prop := ∃ b : Bt, BtV K H sg b v ∧ b.ok sg ∧ b.fine ∧ b.sz ≤ 4
theorem ThB.ex {v : V} (e : Ex H H') (h : ThB K H sg v) : ThB K H' sg v := let ⟨b, x, y⟩ := h; ⟨b, x.ex e, y⟩
theorem th_odd {v : V} {d : PyData} (hq : Dq K H v d) (nf : NF K H sg v) (g : Gd 5 100 d) : ThB K H sg v := ⟨.odd d, by rw [BtV]; exact ⟨hq, nf⟩, by rw [Bt.ok]; trivial, by rw [Bt.fine]; exact g, by rw [Bt.sz]; decide⟩
theorem dps_rep {v : V} {d : PyData} (h : Dp K H v d) : ∀ k, DpAll K H (List.replicate k v) (List.replicate k d)
  | 0 => .nil
  | k + 1 => .cons h (dps_rep h k)
theorem bts_rep {v : V} {b : Bt} (h : BtV K H sg b v) : ∀ k, BtsV K H sg (List.replicate k b) (List.replicate k v)
  | 0 => BtsV.nil
  | k + 1 => by
    rw [List.replicate_succ, List.replicate_succ, BtsV]
    exact ⟨v, _, rfl, h, bts_rep h k⟩
theorem boks_rep {b : Bt} (h : b.ok sg) : ∀ k, boks sg (List.replicate k b)
  | 0 => by rw [List.replicate_zero, boks]; trivial
  | k + 1 => by rw [List.replicate_succ, boks]; exact ⟨h, boks_rep h k⟩
theorem bfines_rep {b : Bt} (h : b.fine) : ∀ k, bfines (List.replicate k b)
  | 0 => by rw [List.replicate_zero, bfines]; trivial
  | k + 1 => by rw [List.replicate_succ, bfines]; exact ⟨h, bfines_rep h k⟩
theorem bszs_rep {b : Bt} (h : b.sz = 1) : ∀ k, bszs (List.replicate k b) = k
  | 0 => by rw [List.replicate_zero, bszs]
  | k + 1 => by rw [List.replicate_succ, bszs, h, bszs_rep h k, Nat.add_comm]
/-- a leaf -/
structure Lf (K : PySem.W.Frag) (H : Hp) (lf : Addr) (x : Str) : Prop where
  at_ : H lf = some (.tup [.str "var", .str x])
  mem : x ∈ vars
theorem Lf.ex {lf : Addr} {x : Str} (e : Ex H H') (h : Lf K H lf x) : Lf K H' lf x := ⟨e _ _ h.at_, h.mem⟩
theorem Lf.dp {lf : Addr} {x : Str} (h : Lf K H lf x) : Dp K H (.ref lf) (leafD x) := .tup (st_of h.at_) (.cons (.str _) (.cons (.str _) .nil))
theorem Lf.bt {lf : Addr} {x : Str} (h : Lf K H lf x) : BtV K H sg (.var x) (.ref lf) := btv_var (st_of h.at_)
theorem Lf.th {lf : Addr} {x : Str} (h : Lf K H lf x) : ThB K H sg (.ref lf) := ⟨.var x, h.bt, by rw [Bt.ok]; exact h.mem, by rw [Bt.fine]; trivial, by rw [Bt.sz]; decide⟩
/-- a tuple of so many leaves -/
def RpT (K : PySem.W.Frag) (H : Hp) (v : V) (xs : List V) : Prop := ∃ b, v = .ref b ∧ SqT K H b xs
theorem RpT.ex {v : V} {xs : List V} (e : Ex H H') (h : RpT K H v xs) : RpT K H' v xs := let ⟨b, q, s⟩ := h; ⟨b, q, ex_t e s⟩
theorem mem3 {α : Type} {P : α → Prop} {a b c : α} (ha : P a) (hb : P b) (hc : P c) : ∀ d ∈ [a, b, c], P d := fun d hd => by
  simp only [List.mem_cons, List.not_mem_nil, or_false] at hd
  rcases hd with e | e | e <;> rw [e] <;> assumption
theorem mem2 {α : Type} {P : α → Prop} {a b : α} (ha : P a) (hb : P b) : ∀ d ∈ [a, b], P d := fun d hd => by
  simp only [List.mem_cons, List.not_mem_nil, or_false] at hd
  rcases hd with e | e <;> rw [e] <;> assumption
theorem mem1 {α : Type} {P : α → Prop} {a : α} (ha : P a) : ∀ d ∈ [a], P d := fun d hd => by
  rw [List.mem_singleton.mp hd]
  exact ha
theorem gd_deedS : Gd 3 22 (.str ("deed" : Str)) := gd_s (by decide)
theorem gd_varS : Gd 3 22 (.str ("var" : Str)) := gd_s (by decide)
theorem th_many {a lf : Addr} {f x : Str} {y : V} {k : Nat} (s : SqT K H a [.str "deed", .str f, y]) (r : RpT K H y (List.replicate k (.ref lf))) (h : Lf K H lf x) (g : Gd 3 22 (.str f)) (k3 : k ≤ 3) : ThB K H sg (.ref a) := by
  obtain ⟨b, rfl, sb⟩ := r
  by_cases mem : (f, k) ∈ sg
  · refine ⟨.deed f (List.replicate k (.var x)), btv_deed s sb (bts_rep h.bt k), ?_, ?_, ?_⟩
    · rw [Bt.ok, List.length_replicate]
      exact ⟨mem, boks_rep (by rw [Bt.ok]; exact h.mem) k⟩
    · rw [Bt.fine]
      exact bfines_rep (by rw [Bt.fine]; trivial) k
    · rw [Bt.sz, bszs_rep (by rw [Bt.sz]) k]
      omega
  · refine th_odd (d := .tuple [.str "deed", .str f, .tuple (List.replicate k (leafD x))]) (.fl (.tup s (.cons (.str _) (.cons (.str _) (.cons (.tup sb (dps_rep h.dp k)) .nil)))) ?_) (.many s sb (by rw [List.length_replicate]; exact mem) (strOk_of g)) (gd_small (mem3 gd_deedS g (gd_leavesT h.mem k3)) (by show 3 ≤ 4; decide))
    rw [noL, noLs, noLs, noLs, noLs, noL, noL, noL, noL_leaf]
    rfl
theorem th_nones {a : Addr} {f : Str} {y : V} {k : Nat} (s : SqT K H a [.str "deed", .str f, y]) (r : RpT K H y (List.replicate k .non)) (mem : (f, k) ∈ sg) (k3 : k ≤ 3) : ThB K H sg (.ref a) := by
  obtain ⟨b, rfl, sb⟩ := r
  have o : BtV K H sg (.odd .none) .non := by
    rw [BtV]
    exact ⟨.fl .non rfl, .tup .non⟩
  refine ⟨.deed f (List.replicate k (.odd .none)), btv_deed s sb (bts_rep o k), ?_, ?_, ?_⟩
  · rw [Bt.ok, List.length_replicate]
    exact ⟨mem, boks_rep (by rw [Bt.ok]; trivial) k⟩
  · rw [Bt.fine]
    exact bfines_rep (by rw [Bt.fine]; exact gd_none.mono (by decide) (by decide)) k
  · rw [Bt.sz, bszs_rep (by rw [Bt.sz]) k]
    omega
end
end K11
end
section
namespace K11
open PySem PySem.Spec PyProof.Rows L2 Evl RZ Dw M20
theorem flatten_rep {α : Type} (x : α) : ∀ k, (List.replicate k [x]).flatten = List.replicate k x
  | 0 => rfl
  | k + 1 => by
    rw [List.replicate_succ, List.flatten_cons, flatten_rep x k, List.replicate_succ]
    rfl
section
variable {P : Program} {w : World} {K : PySem.W.Frag} {mg : Str → Option Value} {base : Heap} {σ : L2.St} {H H' Hb : Hp} {va p c : Addr} {n m : Nat} {sg : List (Str × Nat)}
/-- (x,) * k -/
theorem ep_repT {ta tk : TE} {x : V} {k : Int} {j : Nat} (ha : Ev ta σ H x) (hk : ∀ H1, Ex H H1 → Ev tk σ H1 (.int k)) (h0 : -10 ≤ k) (h1 : k ≤ 10) (ej : k.toNat = j) : EvP (tOp (rRepTA K) (tTup (tCons ta tNil)) tk) σ H (fun v H' => RpT K H' v (List.replicate j x)) := fun H1 e Q q => by
  subst ej
  refine do_op (eu_tup (ea_cons ha ea_nil) (by show 1 ≤ 100000; decide) H1 e _ fun l H2 _ e2 hl => hk H2 (e.trans e2) H2 (Ex.refl _) _ fun H3 e3 => ?_)
  have x13 := e2.trans e3
  refine ⟨l, k, [x], rfl, rfl, st_of (e3 _ _ hl), by simp, h0, by omega, by show 1 ≤ 1000; decide, fun k0 p np => ?_, fun k1 => ?_, fun k2 p np => ?_⟩
  · refine q _ _ (x13.trans (Ex.new np)) ⟨p, rfl, ?_⟩
    rw [show k.toNat = 0 by omega]
    exact st_of upd_same
  · refine q _ _ x13 ⟨l, rfl, ?_⟩
    rw [show k.toNat = 1 by omega]
    exact st_of (e3 _ _ hl)
  · refine q _ _ (x13.trans (Ex.new np)) ⟨p, rfl, ?_⟩
    rw [flatten_rep]
    exact st_of upd_same
theorem ep_t3 {t1 t2 t3 : TE} {v1 : V} {P2 P3 : V → Hp → Prop} (h1 : Ev t1 σ H v1) (h2 : EvP t2 σ H P2) (h3 : EvP t3 σ H P3) (k2 : ∀ v H1 H2, Ex H1 H2 → P2 v H1 → P2 v H2) (k3 : ∀ v H1 H2, Ex H1 H2 → P3 v H1 → P3 v H2) :
    EvP (tTup (tCons t1 (tCons t2 (tCons t3 tNil)))) σ H (fun v H' => ∃ a y z, v = .ref a ∧ SqT K H' a [v1, y, z] ∧ P2 y H' ∧ P3 z H') := fun H1 e Q q =>
  do_tup (do_cons (h1 H1 e _ fun H2 e2 => do_cons (h2 H2 (e.trans e2) _ fun y H3 e3 hy => do_cons (h3 H3 ((e.trans e2).trans e3) _ fun z H4 e4 hz => do_nil ⟨by show 3 ≤ sizeLine; decide, fun p np =>
    q _ _ (((e2.trans e3).trans e4).trans (Ex.new np)) ⟨p, y, z, rfl, st_of upd_same, k2 _ _ _ (e4.trans (Ex.new np)) hy, k3 _ _ _ (Ex.new np) hz⟩⟩))))
/-- a list of n such, new since Hb -/
def ThL (K : PySem.W.Frag) (sg : List (Str × Nat)) (Hb : Hp) (n : Nat) (v : V) (H : Hp) : Prop := ∃ (l : Addr) (xs : List V) (Hm : Hp), v = .ref l ∧ H l = some (.lst xs) ∧ xs.length = n ∧ Ex Hb Hm ∧ Hm l = none ∧ Ex Hm H ∧ ∀ x ∈ xs, ThB K Hm sg x
theorem ThL.ex {v : V} (e : Ex H H') (h : ThL K sg Hb n v H) : ThL K sg Hb n v H' := let ⟨l, xs, Hm, a, b, d, f, g, i, j⟩ := h; ⟨l, xs, Hm, a, e _ _ b, d, f, g, i.trans e, j⟩
/-! the single ones -/
theorem gd_int {i : Int} (h : i.natAbs < 1000) (hs : PyData.intsShort 13 (.int i) = true) : Gd 3 22 (.int i) := by
  have l9 : i.natAbs.log2 ≤ 9 := log_low (by omega)
  refine ⟨by rw [PyData.canLay0], by rw [PyData.depth]; decide, ?_, hs, ?_⟩
  · rw [PyData.weight]
    split <;> omega
  · rw [PyData.showable]
    exact decide_eq_true (by omega)
theorem gd_tup0 : Gd 3 22 (.tuple []) := by
  have g : Gd (0 + 1) (0 * (0 + 1)) (.tuple []) := gd_tup (fun d hd => by cases hd) (Nat.le_refl 0)
  exact g.mono (by decide) (by decide)
theorem gd_7 : Gd 3 22 (.int 7) := gd_int (by decide) (by rw [PyData.intsShort]; decide)
end
end K11
end
section
namespace K11
open PySem PySem.Spec PyProof.Rows L2 Evl RZ Dw M20
section
variable {P : Program} {w : World} {K : PySem.W.Frag} {mg : Str → Option Value} {base : Heap} {σ : L2.St} {H H' Hb : Hp} {va p c : Addr} {n m : Nat} {sg : List (Str × Nat)}
theorem name_gd {z : Str} (h : Name z) : Gd 3 22 (.str z) ∧ Gd 0 5 (.str z) ∧ Gd 3 22 (.str (z ++ "a")) := by
  have l4 : z.cps.size ≤ 4 := h.l4
  have cp := name_cps h
  refine ⟨gd_s ⟨cp, by omega⟩, gd_strN cp (by omega) (by decide), gd_s ⟨fun c hc => ?_, ?_⟩⟩
  · have : (z ++ ("a" : Str)).cps.toList = z.cps.toList ++ [97] := by
      show (z.cps ++ ("a" : Str).cps).toList = _
      rw [Array.toList_append]
      rfl
    rw [this] at hc
    rcases List.mem_append.mp hc with y | y
    · exact cp c y
    · rw [List.mem_singleton.mp y]
      decide
  · show (z.cps ++ ("a" : Str).cps).size ≤ 22
    rw [Array.size_append]
    show z.cps.size + 1 ≤ 22
    omega
end
end K11
end
section
namespace K11
open PySem PySem.Spec PyProof.Rows L2 Evl RZ Dw M20
section
variable {P : Program} {w : World} {K : PySem.W.Frag} {mg : Str → Option Value} {base : Heap} {σ : L2.St} {H H' Hb : Hp} {P0 B0 T0 G0 a1 a2 a3 a4 a5 a6 : Addr} {sg : List (Str × Nat)}
end
end K11
end
section
namespace K11
open PySem PySem.Spec PyProof.Rows L2 Evl RZ Dw M20
/-! data whose lists are none of the purse's -/
mutual
inductive Dz (K : PySem.W.Frag) (p c : Addr) (H : Hp) : V → PyData → Prop where
  | non : Dz K p c H .non .none
  | bl (b : Bool) : Dz K p c H (.bl b) (.bool b)
  | int (i : Int) : Dz K p c H (.int i) (.int i)
  | str (x : Str) : Dz K p c H (.str x) (.str x)
  | lst {a : Addr} {xs : List V} {ds : List PyData} (h : H a = some (.lst xs)) (hp : a ≠ p) (hc : a ≠ c) (r : DzAll K p c H xs ds) : Dz K p c H (.ref a) (.list ds)
  | tup {a : Addr} {xs : List V} {ds : List PyData} (h : SqT K H a xs) (r : DzAll K p c H xs ds) : Dz K p c H (.ref a) (.tuple ds)
inductive DzAll (K : PySem.W.Frag) (p c : Addr) (H : Hp) : List V → List PyData → Prop where
  | nil : DzAll K p c H [] []
  | cons {v : V} {vs : List V} {d : PyData} {ds : List PyData} (a : Dz K p c H v d) (b : DzAll K p c H vs ds) : DzAll K p c H (v :: vs) (d :: ds)
end
section
variable {P : Program} {w : World} {K : PySem.W.Frag} {mg : Str → Option Value} {base : Heap} {σ : L2.St} {H H' : Hp} {p c : Addr} {n : Nat} {v : V} {d : PyData}
mutual
theorem Dz.dp : ∀ {v : V} {d : PyData}, Dz K p c H v d → Dp K H v d
  | _, _, .non => .non
  | _, _, .bl b => .bl b
  | _, _, .int i => .int i
  | _, _, .str x => .str x
  | _, _, .lst h _ _ r => .lst (sq_of h) (DzAll.dp r)
  | _, _, .tup h r => .tup h (DzAll.dp r)
theorem DzAll.dp : ∀ {vs : List V} {ds : List PyData}, DzAll K p c H vs ds → DpAll K H vs ds
  | _, _, .nil => .nil
  | _, _, .cons a b => .cons (Dz.dp a) (DzAll.dp b)
end
mutual
theorem Dz.ex (e : Ex H H') : ∀ {v : V} {d : PyData}, Dz K p c H v d → Dz K p c H' v d
  | _, _, .non => .non
  | _, _, .bl b => .bl b
  | _, _, .int i => .int i
  | _, _, .str x => .str x
  | _, _, .lst h hp hc r => .lst (e _ _ h) hp hc (DzAll.ex e r)
  | _, _, .tup h r => .tup (ex_t e h) (DzAll.ex e r)
theorem DzAll.ex (e : Ex H H') : ∀ {vs : List V} {ds : List PyData}, DzAll K p c H vs ds → DzAll K p c H' vs ds
  | _, _, .nil => .nil
  | _, _, .cons a b => .cons (Dz.ex e a) (DzAll.ex e b)
end
mutual
theorem Dz.off (pu : Pur H p c n) (o : Off H H' p c) : ∀ {v : V} {d : PyData}, Dz K p c H v d → Dz K p c H' v d
  | _, _, .non => .non
  | _, _, .bl b => .bl b
  | _, _, .int i => .int i
  | _, _, .str x => .str x
  | _, _, .lst h hp hc r => .lst (o _ _ hp hc h) hp hc (DzAll.off pu o r)
  | _, _, .tup h r => .tup (o.et pu _ _ h) (DzAll.off pu o r)
theorem DzAll.off (pu : Pur H p c n) (o : Off H H' p c) : ∀ {vs : List V} {ds : List PyData}, DzAll K p c H vs ds → DzAll K p c H' vs ds
  | _, _, .nil => .nil
  | _, _, .cons a b => .cons (Dz.off pu o a) (DzAll.off pu o b)
end
theorem DzAll.len : ∀ {vs : List V} {ds : List PyData}, DzAll K p c H vs ds → vs.length = ds.length
  | _, _, .nil => rfl
  | _, _, .cons a b => by rw [List.length_cons, List.length_cons, DzAll.len b]
theorem DzAll.get : ∀ {vs : List V} {ds : List PyData} {k : Nat} {x : V}, DzAll K p c H vs ds → vs[k]? = some x → ∃ e, ds[k]? = some e ∧ Dz K p c H x e
  | _, _, k, _, .nil, h => by
    rw [List.getElem?_nil] at h
    cases h
  | _, _, 0, x, .cons a b, h => by
    cases Option.some.inj h
    exact ⟨_, rfl, a⟩
  | _, _, k + 1, x, .cons a b, h => DzAll.get (k := k) b h
theorem DzAll.put : ∀ {vs : List V} {ds : List PyData} {k : Nat} {e : PyData}, DzAll K p c H vs ds → ds[k]? = some e → ∃ x, vs[k]? = some x ∧ Dz K p c H x e
  | _, _, k, _, .nil, h => by
    rw [List.getElem?_nil] at h
    cases h
  | _, _, 0, x, .cons a b, h => by
    cases Option.some.inj h
    exact ⟨_, rfl, a⟩
  | _, _, k + 1, x, .cons a b, h => DzAll.put (k := k) b h
theorem DzAll.app : ∀ {vs us : List V} {ds es : List PyData}, DzAll K p c H vs ds → DzAll K p c H us es → DzAll K p c H (vs ++ us) (ds ++ es)
  | _, _, _, _, .nil, h => h
  | _, _, _, _, .cons a b, h => .cons a (DzAll.app b h)
theorem DzAll.take : ∀ {vs : List V} {ds : List PyData} (k : Nat), DzAll K p c H vs ds → DzAll K p c H (vs.take k) (ds.take k)
  | _, _, k, .nil => by
    rw [List.take_nil, List.take_nil]
    exact .nil
  | _, _, 0, .cons a b => .nil
  | _, _, k + 1, .cons a b => .cons a (DzAll.take k b)
theorem DzAll.drop : ∀ {vs : List V} {ds : List PyData} (k : Nat), DzAll K p c H vs ds → DzAll K p c H (vs.drop k) (ds.drop k)
  | _, _, k, .nil => by
    rw [List.drop_nil, List.drop_nil]
    exact .nil
  | _, _, 0, .cons a b => .cons a b
  | _, _, k + 1, .cons a b => DzAll.drop k b
/-! bounded data, ints of up to forty signs -/
structure Gb (k W : Nat) (d : PyData) : Prop where
  lay : d.canLay0 = true
  dep : d.depth ≤ k
  wgt : d.weight ≤ W
  its : d.intsShort 40 = true
  sho : d.showable = true
theorem Gb.mono {k W k' W' : Nat} {d : PyData} (h : Gb k W d) (a : k ≤ k') (b : W ≤ W') : Gb k' W' d := ⟨h.lay, Nat.le_trans h.dep a, Nat.le_trans h.wgt b, h.its, h.sho⟩
mutual
theorem ints_mono : ∀ d : PyData, d.intsShort 13 = true → d.intsShort 40 = true
  | .none, _ => by rw [PyData.intsShort]
  | .bool _, _ => by rw [PyData.intsShort]
  | .str _, _ => by rw [PyData.intsShort]
  | .dict _, _ => by rw [PyData.intsShort]
  | .int i, h => by
    rw [PyData.intsShort, decide_eq_true_eq] at h ⊢
    omega
  | .list xs, h => by
    rw [PyData.intsShort] at h ⊢
    exact ints_monos xs h
  | .tuple xs, h => by
    rw [PyData.intsShort] at h ⊢
    exact ints_monos xs h
theorem ints_monos : ∀ ds : List PyData, PyData.intsShortAll 13 ds = true → PyData.intsShortAll 40 ds = true
  | [], _ => by rw [PyData.intsShortAll]
  | d :: ds, h => by
    rw [PyData.intsShortAll, Bool.and_eq_true] at h ⊢
    exact ⟨ints_mono d h.1, ints_monos ds h.2⟩
end
theorem Gd.gb {k W : Nat} {d : PyData} (h : Gd k W d) : Gb k W d := ⟨h.lay, h.dep, h.wgt, ints_mono d h.its, h.sho⟩
theorem Gb.len {k W : Nat} {d : PyData} (h : Gb k W d) (b : W ≤ 100000) : d.shown.length ≤ sizeLine := by
  have z := PyData.shown_le 40 (by decide) d (PyData.leavesShort_of_canLay0 40 d h.lay h.its)
  have y := h.wgt
  rw [sizeLine_eq]
  omega
/-! what isinstance says -/
def isStr : PyData → Bool
  | .str _ => true
  | _ => false
def isTup : PyData → Bool
  | .tuple _ => true
  | _ => false
def wholeB : PyData → Bool
  | .int _ => true
  | _ => false
theorem ev_isStr {ta tb : TE} (ha : Ev ta σ H v) (hc : Ev tb σ H (.ty "str")) (h : Dz K p c H v d) : Ev (tCB (rIsi K) (tCons ta (tCons tb tNil))) σ H (.bl (isStr d)) := by
  cases h with
  | non => exact ev_isi (b := false) ha hc (.ty _) (fun _ _ => tyx_non) (kit_ty (by decide +kernel))
  | bl b => exact ev_isi (b := false) ha hc (.ty _) (fun _ _ => tyx_bl b) (kit_ty (by decide +kernel))
  | int i => exact ev_isi (b := false) ha hc (.ty _) (fun _ _ => tyx_int i) (kit_ty (by decide +kernel))
  | str z => exact ev_isi (b := true) ha hc (.ty _) (fun _ _ => tyx_str z) (kit_ty (by decide +kernel))
  | lst h _ _ _ => exact ev_isi (b := false) ha hc (.ty _) (fun _ e => .base (.lst (e _ _ h))) (kit_ty (by decide +kernel))
  | tup h _ => exact ev_isi (b := false) ha hc (.ty _) (fun _ e => tyx_tup (ex_t e h)) (kit_ty (by decide +kernel))
theorem ev_isTup {ta tb : TE} (ha : Ev ta σ H v) (hc : Ev tb σ H (.ty "tuple")) (h : Dz K p c H v d) : Ev (tCB (rIsi K) (tCons ta (tCons tb tNil))) σ H (.bl (isTup d)) := by
  cases h with
  | non => exact ev_isi (b := false) ha hc (.ty _) (fun _ _ => tyx_non) (kit_ty (by decide +kernel))
  | bl b => exact ev_isi (b := false) ha hc (.ty _) (fun _ _ => tyx_bl b) (kit_ty (by decide +kernel))
  | int i => exact ev_isi (b := false) ha hc (.ty _) (fun _ _ => tyx_int i) (kit_ty (by decide +kernel))
  | str z => exact ev_isi (b := false) ha hc (.ty _) (fun _ _ => tyx_str z) (kit_ty (by decide +kernel))
  | lst h _ _ _ => exact ev_isi (b := false) ha hc (.ty _) (fun _ e => .base (.lst (e _ _ h))) (kit_ty (by decide +kernel))
  | tup h _ => exact ev_isi (b := true) ha hc (.ty _) (fun _ e => tyx_tup (ex_t e h)) (kit_ty (by decide +kernel))
theorem ev_isIntB {ta tb tc td : TE} (ha : Ev ta σ H v) (hc : Ev tb σ H (.ty "int")) (ha2 : Ev tc σ H v) (hc2 : Ev td σ H (.ty "bool")) (h : Dz K p c H v d) : Ev (tAndV (tCB (rIsi K) (tCons ta (tCons tb tNil))) (tNotV (tCB (rIsi K) (tCons tc (tCons td tNil))))) σ H (.bl (wholeB d)) := by
  cases h with
  | non => exact ev_andV (a := false) (b := false) (ev_isi ha hc (.ty _) (fun _ _ => tyx_non) (kit_ty (by decide +kernel))) (fun z => by cases z)
  | bl b => exact ev_andV (a := true) (b := false) (ev_isi ha hc (.ty _) (fun _ _ => tyx_bl b) (kit_ty (by decide +kernel))) (fun _ => ev_notV (a := true) (ev_isi ha2 hc2 (.ty _) (fun _ _ => tyx_bl b) (kit_ty (by decide +kernel))))
  | int i => exact ev_andV (a := true) (b := true) (ev_isi ha hc (.ty _) (fun _ _ => tyx_int i) (kit_ty (by decide +kernel))) (fun _ => ev_notV (a := false) (ev_isi ha2 hc2 (.ty _) (fun _ _ => tyx_int i) (kit_ty (by decide +kernel))))
  | str z => exact ev_andV (a := false) (b := false) (ev_isi ha hc (.ty _) (fun _ _ => tyx_str z) (kit_ty (by decide +kernel))) (fun z => by cases z)
  | lst h _ _ _ => exact ev_andV (a := false) (b := false) (ev_isi ha hc (.ty _) (fun _ e => .base (.lst (e _ _ h))) (kit_ty (by decide +kernel))) (fun z => by cases z)
  | tup h _ => exact ev_andV (a := false) (b := false) (ev_isi ha hc (.ty _) (fun _ e => tyx_tup (ex_t e h)) (kit_ty (by decide +kernel))) (fun z => by cases z)
end
def inL (x : Nat) : Bool := decide (x ∈ letters.cps.toList)
def nameB : PyData → Bool
  | .str z => decide (1 ≤ z.length) && decide (z.length ≤ 4) && z.cps.toList.all inL
  | _ => false
def belowB (n : Int) : PyData → Bool
  | .int i => decide (0 ≤ i) && decide (i < n)
  | _ => false
def deedB : PyData → Bool
  | .tuple [a, b] => nameB a && belowB 3 b
  | _ => false
def nameOf : PyData → Str
  | .tuple (.str z :: _) => z
  | _ => ""
def oddK (ds : List PyData) : List Nat := (List.range ds.length).filter fun k => !deedB (ds.getD k .none)
def twiceK (ns : List Str) : List Nat := (List.range ns.length).filter fun k => decide (ns.getD k "" ∈ ns.take k)
def dK2 (w : Str) (k : Nat) : PyData := .tuple [.str w, .int ((k : Nat) : Int)]
def sigW : PyData → PyData
  | .tuple ds => if 1 ≤ ds.length ∧ ds.length ≤ 4 then (match oddK ds with
    | k :: _ => dK2 "deed" k
    | [] => match twiceK (ds.map nameOf) with
      | k :: _ => dK2 "twice" k
      | [] => .none) else .tuple [.str "signature"]
  | _ => .tuple [.str "signature"]
theorem filt_first {f : Nat → Bool} {n i : Nat} (hi : i < n) (h0 : ∀ j, j < i → f j = false) (h1 : f i = true) : ∃ r, (List.range n).filter f = i :: r := by
  obtain ⟨m, rfl⟩ : ∃ m, n = i + (m + 1) := ⟨n - i - 1, by omega⟩
  rw [List.range_add, List.filter_append]
  have e : (List.range i).filter f = [] := List.filter_eq_nil_iff.mpr (fun j hj => by rw [h0 j (List.mem_range.mp hj)]; decide)
  rw [e, List.nil_append, List.range_succ_eq_map, List.map_cons, List.filter_cons_of_pos (by rw [Nat.add_zero]; exact h1)]
  exact ⟨_, rfl⟩
theorem filt_none {f : Nat → Bool} {n : Nat} (h0 : ∀ j, j < n → f j = false) : (List.range n).filter f = [] := List.filter_eq_nil_iff.mpr (fun j hj => by rw [h0 j (List.mem_range.mp hj)]; decide)
section
variable {P : Program} {w : World} {K : PySem.W.Frag} {mg : Str → Option Value} {base : Heap} {σ : L2.St} {H H' : Hp} {p c : Addr} {n : Nat} {v : V} {d : PyData}
def sp_whole_any (K : PySem.W.Frag) : Sp := spX (fun (z : (Addr × Addr) × PyData) vs H => (fun (p c : Addr) (d : PyData) => ∃ v, vs = [v] ∧ Dz K p c H v d) z.1.1 z.1.2 z.2) (fun z v H => (fun (d : PyData) => v = .bl (wholeB d)) z.2)
theorem c_whole_any (T : Txt mg) (D : Df K mg "is_whole" s_is_whole ["thing"]) : Cl P w K mg base 1 "is_whole" (sp_whole_any K) := by
  refine cl_of (k := 0) D sc_is_whole (fun vs H Q E h => ?_) (fun f cdv A outer s H vs Q E hr h => ?_)
  · obtain ⟨d, ⟨v, rfl, _⟩, _⟩ := h
    rfl
  · obtain ⟨⟨⟨p, c⟩, d⟩, ⟨v, rfl, hv⟩, q⟩ := h
    refine ⟨_, (pss_one (ps_ret (pe_and (pe_callB call_isi (by rfl) T.z_isinstance (by decide +kernel) (pa_cons (pv 0) (pa_cons (pe_ty "int" (by rfl) T.z_int (by decide +kernel)) pa_nil))) (pe_one (pe_not (pe_callB call_isi (by rfl) T.z_isinstance (by decide +kernel) (pa_cons (pv 0) (pa_cons (pe_ty "bool" (by rfl) T.z_bool (by decide +kernel)) pa_nil)))))))), ?_⟩
    exact s_ret (ev_isIntB (K := K) (ev_var rfl) ev_c (ev_var rfl) ev_c hv) fun H1 e1 => q _ H1 e1 rfl
theorem whole_int (h : Dz K p c H v d) (w : wholeB d = true) : ∃ i, v = .int i ∧ d = .int i := by
  cases h with
  | int i => exact ⟨i, rfl, rfl⟩
  | non => cases w
  | bl b => cases w
  | str z => cases w
  | lst _ _ _ _ => cases w
  | tup _ _ => cases w
def sp_below_any (K : PySem.W.Frag) : Sp := spX (fun (z : (Addr × Addr) × PyData × Int) vs H => (fun (p c : Addr) (q : PyData × Int) => ∃ v, vs = [v, .int q.2] ∧ Dz K p c H v q.1) z.1.1 z.1.2 z.2) (fun z v H => (fun (q : PyData × Int) => v = .bl (belowB q.2 q.1)) z.2)
theorem c_below_any (T : Txt mg) (D : Df K mg "is_below" s_is_below ["thing", "size"]) (c_whole_any : Cl P w K mg base 1 "is_whole" (sp_whole_any K)) : Cl P w K mg base 2 "is_below" (sp_below_any K) := by
  refine cl_of (k := 1) D sc_is_below (fun vs H Q E h => ?_) (fun f cdv A outer s H vs Q E hr h => ?_)
  · obtain ⟨d, ⟨v, rfl, _⟩, _⟩ := h
    rfl
  · obtain ⟨⟨⟨p, c⟩, d, n⟩, ⟨v, rfl, hv⟩, q⟩ := h
    have c_is_whole := c_whole_any
    refine ⟨_, (pss_one (ps_ret (pe_and (pe_cl c_is_whole hr (by first | decide | omega) (by rfl) (pa_cons (pv 0) pa_nil)) (pe_one (pe_chain op_le op_lt pe_int (pv 0) (pv 1)))))), ?_⟩
    replace hv : Dz K p c H v d := hv
    replace q : ∀ r H', Ex H H' → r = .bl (belowB n d) → Q r H' := q
    by_cases hw : wholeB d = true
    · obtain ⟨i, rfl, rfl⟩ := whole_int hv hw
      refine s_ret (ev_andV (a := true) (b := belowB n (.int i)) (ev_callV (v := .bl true) ((p, c), PyData.int i) (ea_cons (ev_var rfl) ea_nil) (fun H1 e1 => ⟨_, rfl, .int i⟩) (fun _ _ z => z.trans rfl)) (fun _ => ev_chain ev_c (ev_var rfl) (fun _ => ev_var rfl) rv_I0 (fun _ => rv_I0))) fun H1 e1 => q _ H1 e1 rfl
    · have hw2 : wholeB d = false := by simpa using hw
      refine s_ret (ev_andV (a := false) (b := false) (ev_callV (v := .bl false) ((p, c), d) (ea_cons (ev_var rfl) ea_nil) (fun H1 e1 => ⟨_, rfl, hv.ex e1⟩) (fun _ _ z => by rw [z, hw2])) (fun z => by cases z)) fun H1 e1 => q _ H1 e1 ?_
      cases d <;> first | rfl | cases hw2
def sp_name_any (K : PySem.W.Frag) : Sp := spX (fun (z : (Addr × Addr) × PyData) vs H => (fun (p c : Addr) (d : PyData) => (∃ v, vs = [v] ∧ Dz K p c H v d) ∧ Gb 50 100000 d) z.1.1 z.1.2 z.2) (fun z v H => (fun (d : PyData) => v = .bl (nameB d)) z.2)
theorem c_name_any (T : Txt mg) (D : Df K mg "is_name" s_is_name ["thing"]) : Cl P w K mg base 1 "is_name" (sp_name_any K) := by
  refine cl_of (k := 0) D sc_is_name (fun vs H Q E h => ?_) (fun f cdv A outer s H vs Q E hr h => ?_)
  · obtain ⟨d, ⟨⟨v, rfl, _⟩, _⟩, _⟩ := h
    rfl
  · obtain ⟨⟨⟨p, c⟩, d⟩, ⟨⟨v, rfl, hv⟩, wd⟩, q⟩ := h
    refine ⟨_, (pss_cons (ps_if (PW.pt (pw_or (pt_not (pt_val (pe_callB call_isi (by rfl) T.z_isinstance (by decide +kernel) (pa_cons (pv 0) (pa_cons (pe_ty "str" (by rfl) T.z_str (by decide +kernel)) pa_nil))))) (pw_or1 (pt_not (pt_chain op_le op_le pe_int (pe_callB call_len_str (by rfl) T.z_len PySem.boot_len (pa_cons (pv 0) pa_nil)) (pe_gi (by rfl) T.c_MOST_NAME))))))
        (pss_one (ps_ret pe_bl))
        pss_nil)
      (pss_one (ps_ret (pe_callB (cr_all rfl) (by rfl) T.z_all (by decide +kernel) (pa_cons (pe_lc (own := [("sign", 1)]) (g := (gName 1)) (by rfl) sc_is_name.nd (pi_str (pv 0)) (blkOk_by (own := [("sign", 1)]) (N := ["thing", "sign"]) (sc := defScope s_is_name) (by decide +kernel)) (fun _ _ _ _ _ => (pg_name (i := 1) sc_is_name.nd rfl (.inl rfl))) (fun _ _ _ _ _ => pts_nil) (fun _ _ _ _ _ => (pe_cmpR op_in_sign (pv 1) (pe_gs (by rfl) T.c_NAME_LETTERS) (by rfl)))) pa_nil))))), ?_⟩
    replace hv : Dz K p c H v d := hv
    replace q : ∀ r H', Ex H H' → r = .bl (nameB d) → Q r H' := q
    by_cases hs : isStr d = true
    · cases hv with
      | str z =>
        have hsz : z.cps.size = z.length := rfl
        replace wd := wd.wgt
        rw [PyData.weight] at wd
        have big : z.length ≤ 100000 := wd
        refine q_when (b := !(decide (1 ≤ z.length) && decide (z.length ≤ 4))) (et_is (et_or (a := false) (b := !(decide (1 ≤ z.length) && decide (z.length ≤ 4))) (et_is (et_not (et_val (ev_isStr (K := K) (ev_var rfl) ev_c (.str (p := p) (c := c) z)))) rfl) (fun _ => et_is (et_not (et_test (ev_chain ev_c (ev_lenS (ev_var rfl) big) (fun _ => ev_c) rv_I0 (fun _ => rv_I0)))) ?_)) (by rw [Bool.false_or])) (fun hb H1 e1 => ?_) (fun hb H1 e1 => ?_)
        · show (!(decide ((1 : Int) ≤ (z.length : Int)) && decide ((z.length : Int) ≤ 4))) = _
          congr 2 <;> (rw [decide_eq_decide]; omega)
        · refine s_ret (v := .bl false) ev_c fun H2 e2 => q _ H2 (e1.trans e2) ?_
          rw [nameB]
          rw [Bool.not_eq_true'] at hb
          rw [hb, Bool.false_and]
        · rw [Bool.not_eq_false'] at hb
          refine s_ret (ev_all (bs := z.cps.toList.map inL) ?_) fun H2 e2 => q _ H2 (e1.trans e2) ?_
          · have e : (z.cps.toList.map inL).map V.bl = (List.range z.cps.size).map (fun i => V.bl (inL (z.cps.toList.getD i 0))) := by
              apply List.ext_getElem?
              intro i
              by_cases hi : i < z.cps.size
              · rw [List.getElem?_map, List.getElem?_map, List.getElem?_map, List.getElem?_range hi]
                show Option.map V.bl (Option.map inL z.cps.toList[i]?) = some (V.bl (inL (z.cps.toList.getD i 0)))
                rw [List.getD_eq_getElem?_getD, List.getElem?_eq_getElem (by rw [Array.length_toList]; exact hi)]
                rfl
              · rw [List.getElem?_eq_none (by simp; omega), List.getElem?_eq_none (by simp; omega)]
            rw [e]
            rw [Bool.and_eq_true, decide_eq_true_eq, decide_eq_true_eq] at hb
            refine el_lcS (ev_var rfl) _ (by omega) (fun _ => rfl) (fun i x H2 e2 hc => ?_)
            refine ev_op (ev_var rfl) ev_c ?_
            have hg : z.cps.toList.getD i 0 = x := by
              rw [List.getD_eq_getElem?_getD, Array.getElem?_toList, hc]
              rfl
            exact fun H3 _ Q q3 => ⟨x, letters, rfl, rfl, by rw [hg] at q3; exact q3 H3 (Ex.refl H3)⟩
          · show V.bl ((z.cps.toList.map inL).all id) = V.bl (nameB (.str z))
            rw [nameB, hb, Bool.true_and, List.all_map]
            rfl
      | non => cases hs
      | bl b => cases hs
      | int i => cases hs
      | lst _ _ _ _ => cases hs
      | tup _ _ => cases hs
    · have hs2 : isStr d = false := by simpa using hs
      refine q_when (b := true) (et_is (et_or (a := true) (b := false) (et_is (et_not (et_val (ev_isStr (K := K) (ev_var rfl) ev_c hv))) (by rw [hs2]; rfl)) (fun z => by cases z)) rfl) (fun _ H1 e1 => ?_) (fun hb => by cases hb)
      refine s_ret (v := .bl false) ev_c fun H2 e2 => q _ H2 (e1.trans e2) ?_
      cases d <;> first | rfl | cases hs2
end
end K11
end
section
namespace K11
open PySem PySem.Spec PyProof.Rows L2 Evl RZ Dw M20
theorem weight_mem : ∀ {ds : List PyData} {d : PyData}, d ∈ ds → d.weight ≤ PyData.weightAll ds
  | [], d, h => by cases h
  | x :: ds, d, h => by
    rw [PyData.weightAll]
    rcases List.mem_cons.mp h with e | e
    · rw [e]
      omega
    · have := weight_mem e
      omega
theorem lay_mem : ∀ {ds : List PyData} {d : PyData}, d ∈ ds → (PyData.canLayAll0 ds = true → d.canLay0 = true) ∧ d.depth ≤ PyData.depthAll ds ∧ (PyData.intsShortAll 40 ds = true → d.intsShort 40 = true) ∧ (PyData.showableAll ds = true → d.showable = true)
  | [], d, h => by cases h
  | x :: ds, d, h => by
    rw [PyData.canLayAll0, PyData.depthAll, PyData.intsShortAll, PyData.showableAll, Bool.and_eq_true, Bool.and_eq_true, Bool.and_eq_true]
    rcases List.mem_cons.mp h with e | e
    · rw [e]
      exact ⟨fun z => z.1, Nat.le_max_left _ _, fun z => z.1, fun z => z.1⟩
    · obtain ⟨a, b, c, f⟩ := lay_mem e
      exact ⟨fun z => a z.2, Nat.le_trans b (Nat.le_max_right _ _), fun z => c z.2, fun z => f z.2⟩
theorem gb_mem {k W : Nat} {ds : List PyData} {d : PyData} (g : Gb k W (.tuple ds)) (h : d ∈ ds) : Gb k W d := by
  obtain ⟨a, b, c, f⟩ := lay_mem h
  have g1 := g.lay
  have g2 := g.dep
  have g3 := g.wgt
  have g4 := g.its
  have g5 := g.sho
  rw [PyData.canLay0] at g1
  rw [PyData.depth] at g2
  rw [PyData.weight] at g3
  rw [PyData.intsShort] at g4
  rw [PyData.showable] at g5
  exact ⟨a g1, by omega, Nat.le_trans (weight_mem h) g3, c g4, f g5⟩
theorem weight_len : ∀ ds : List PyData, ds.length ≤ PyData.weightAll ds
  | [] => Nat.zero_le _
  | x :: ds => by
    have := weight_len ds
    rw [PyData.weightAll, List.length_cons]
    omega
theorem oddK_first {ds : List PyData} {i : Nat} (hi : i < ds.length) (h0 : ∀ j, j < i → deedB (ds.getD j .none) = true) (h1 : deedB (ds.getD i .none) = false) : ∃ r, oddK ds = i :: r := filt_first hi (fun j hj => by rw [h0 j hj]; rfl) (by rw [h1]; rfl)
theorem oddK_none {ds : List PyData} (h0 : ∀ j, j < ds.length → deedB (ds.getD j .none) = true) : oddK ds = [] := filt_none (fun j hj => by rw [h0 j hj]; rfl)
section
variable {P : Program} {w : World} {K : PySem.W.Frag} {mg : Str → Option Value} {base : Heap} {σ : L2.St} {H H' : Hp} {p c : Addr} {n : Nat} {v : V} {d : PyData} {P0 B0 T0 G0 S0 : Addr}
theorem ev_len2 {t : TE} {a : Addr} {xs : List V} (h : Ev t σ H (.ref a)) (s : SqT K H a xs) : Ev (tOp rEq (tCB (rLenS K) (tCons t tNil)) (tC (.int 2))) σ H (.bl (decide (xs.length = 2))) := ev_is (ev_op (ev_lenT h s) ev_c (rv_eq rfl)) (by
  show V.bl (decide (V.int (xs.length : Int) = V.int 2)) = _
  congr 1
  rw [decide_eq_decide]
  exact ⟨fun y => by injection y with y; omega, fun y => by rw [y]; rfl⟩)
def sp_deed_any (K : PySem.W.Frag) : Sp := spX (fun (z : (Addr × Addr) × PyData) vs H => (fun (p c : Addr) (d : PyData) => (∃ v, vs = [v] ∧ Dz K p c H v d) ∧ Gb 50 100000 d) z.1.1 z.1.2 z.2) (fun z v H => (fun (d : PyData) => v = .bl (deedB d)) z.2)
theorem c_deed_any (T : Txt mg) (D : Df K mg "is_deed" s_is_deed ["thing"]) (c_name_any : Cl P w K mg base 1 "is_name" (sp_name_any K)) (c_below_any : Cl P w K mg base 2 "is_below" (sp_below_any K)) : Cl P w K mg base 3 "is_deed" (sp_deed_any K) := by
  refine cl_of (k := 2) D sc_is_deed (fun vs H Q E h => ?_) (fun f cdv A outer s H vs Q E hr h => ?_)
  · obtain ⟨d, ⟨⟨v, rfl, _⟩, _⟩, _⟩ := h
    rfl
  · obtain ⟨⟨⟨p, c⟩, d⟩, ⟨⟨v, rfl, hv⟩, wd⟩, q⟩ := h
    have c_is_name := c_name_any
    have c_is_below := c_below_any
    refine ⟨_, (pss_one (ps_ret (pe_and (pe_callB call_isi (by rfl) T.z_isinstance (by decide +kernel) (pa_cons (pv 0) (pa_cons (pe_ty "tuple" (by rfl) T.z_tuple (by decide +kernel)) pa_nil))) (pe_and (pe_cmpR op_eq (pe_callB call_len_seq (by rfl) T.z_len PySem.boot_len (pa_cons (pv 0) pa_nil)) pe_int (nomark _)) (pe_and (pe_cl c_is_name hr (by first | decide | omega) (by rfl) (pa_cons (pe_ix ix_tup (pv 0) pe_int (fun _ _ => rfl)) pa_nil)) (pe_one (pe_cl c_is_below hr (by first | decide | omega) (by rfl) (pa_cons (pe_ix ix_tup (pv 0) pe_int (fun _ _ => rfl)) (pa_cons (pe_op op_add (pe_gi (by rfl) T.c_MOST_PLACES) pe_int) pa_nil))))))))), ?_⟩
    replace hv : Dz K p c H v d := hv
    replace wd : Gb 50 100000 d := wd
    replace q : ∀ r H', Ex H H' → r = .bl (deedB d) → Q r H' := q
    by_cases hs : isTup d = true
    · cases hv with
      | @tup a xs ds h r =>
        have isT := ev_isTup (K := K) (p := p) (c := c) (ta := tVar 0) (tb := tC (.ty "tuple")) (σ := [some (V.ref a)]) (H := H) (ev_var rfl) ev_c (.tup h r)
        have lx := r.len
        by_cases l2 : xs.length = 2
        · cases r with
          | nil => cases l2
          | @cons x xs x' ds hx r =>
            cases r with
            | nil => cases l2
            | @cons y xs y' ds hy r =>
              cases r with
              | cons _ _ =>
                simp at l2
              | nil =>
                refine s_ret (ev_andV (a := true) (b := true && (nameB x' && belowB 3 y')) isT (fun _ => ev_andV (a := true) (b := nameB x' && belowB 3 y') (ev_len2 (K := K) (ev_var rfl) h) (fun _ =>
                  ev_andV (ev_callV (v := .bl (nameB x')) ((p, c), x') (ea_cons (ev_op (ev_var rfl) ev_c (rv_ixT (K := K) h (atI_vi (k := 0) rfl))) ea_nil) (fun _ e => ⟨⟨_, rfl, hx.ex e⟩, gb_mem wd (List.mem_cons_self ..)⟩) (fun _ _ z => z)) (fun _ =>
                  ev_callV (v := .bl (belowB 3 y')) ((p, c), y', (3 : Int)) (ea_cons (ev_op (ev_var rfl) ev_c (rv_ixT (K := K) h (atI_vi (k := 1) rfl))) (ea_cons (ev_op ev_c ev_c rv_I0) ea_nil)) (fun _ e => ⟨_, rfl, hy.ex e⟩) (fun _ _ z => z))))) fun H1 e => q _ H1 e ?_
                rw [deedB, Bool.true_and, Bool.true_and]
        · refine s_ret (ev_andV (a := true) (b := false) isT (fun _ => ev_andV (a := false) (b := false) (ev_is (ev_len2 (K := K) (ev_var rfl) h) (by rw [decide_eq_false l2])) (fun z => by cases z))) fun H1 e => q _ H1 e ?_
          have : deedB (.tuple ds) = false := by
            match ds, lx with
            | [], _ => rfl
            | [_], _ => rfl
            | [_, _], lx => exact absurd lx l2
            | _ :: _ :: _ :: _, _ => rfl
          rw [this]
          rfl
      | non => cases hs
      | bl b => cases hs
      | int i => cases hs
      | str z => cases hs
      | lst _ _ _ _ => cases hs
    · have hs2 : isTup d = false := by simpa using hs
      refine s_ret (ev_andV (a := false) (b := false) (ev_is (ev_isTup (K := K) (ev_var rfl) ev_c hv) (by rw [hs2])) (fun z => by cases z)) fun H1 e => q _ H1 e ?_
      cases d <;> first | rfl | cases hs2
theorem tup_of (h : Dz K p c H v d) (hs : isTup d = true) : ∃ a us ds, v = .ref a ∧ d = .tuple ds ∧ SqT K H a us ∧ DzAll K p c H us ds := by
  cases h with
  | @tup a us ds hS r => exact ⟨a, us, ds, rfl, rfl, hS, r⟩
  | non => cases hs
  | bl b => cases hs
  | int i => cases hs
  | str z => cases hs
  | lst _ _ _ _ => cases hs
def sp_sig_any (K : PySem.W.Frag) : Sp := spX (fun (z : (Addr × Addr) × PyData) vs H => (fun (p c : Addr) (d : PyData) => (∃ v, vs = [v] ∧ Dz K p c H v d) ∧ Gb 50 100000 d) z.1.1 z.1.2 z.2) (fun z v H => (fun (d : PyData) => Dp K H v (sigW d)) z.2)
theorem deedB_name {d : PyData} (h : deedB d = true) (hv : Dz K p c H v d) : ∃ (a : Addr) (z : Str) (y : V), v = .ref a ∧ SqT K H a [.str z, y] ∧ nameOf d = z := by
  cases hv with
  | @tup a xs ds h1 r =>
    cases r with
    | nil => cases h
    | @cons x xs x' ds hx r =>
      cases r with
      | nil => cases h
      | @cons y xs y' ds hy r =>
        cases r with
        | cons _ _ => cases h
        | nil =>
          rw [deedB, Bool.and_eq_true] at h
          cases hx with
          | str z => exact ⟨a, z, y, rfl, h1, rfl⟩
          | non => cases h.1
          | bl b => cases h.1
          | int i => cases h.1
          | lst _ _ _ _ => cases h.1
          | tup _ _ => cases h.1
  | non => cases h
  | bl b => cases h
  | int i => cases h
  | str z => cases h
  | lst _ _ _ _ => cases h
theorem c_sig_any (T : Txt mg) (D : Df K mg "signature_wrong" s_signature_wrong ["thing"]) (c_deed_any : Cl P w K mg base 3 "is_deed" (sp_deed_any K)) : Cl P w K mg base 4 "signature_wrong" (sp_sig_any K) := by
  refine cl_of (k := 3) D sc_signature_wrong (fun vs H Q E h => ?_) (fun f cdv A outer s H vs Q E hr h => ?_)
  · obtain ⟨d, ⟨⟨v, rfl, _⟩, _⟩, _⟩ := h
    rfl
  · obtain ⟨⟨⟨p, c⟩, d⟩, ⟨⟨v, rfl, hv⟩, wd⟩, q⟩ := h
    have c_is_deed := c_deed_any
    refine ⟨_, (pss_cons (ps_if (PW.pt (pw_or (pt_not (pt_val (pe_callB call_isi (by rfl) T.z_isinstance (by decide +kernel) (pa_cons (pv 0) (pa_cons (pe_ty "tuple" (by rfl) T.z_tuple (by decide +kernel)) pa_nil))))) (pw_or1 (pt_not (pt_chain op_le op_le pe_int (pe_callB call_len_seq (by rfl) T.z_len PySem.boot_len (pa_cons (pv 0) pa_nil)) (pe_gi (by rfl) T.c_MOST_DEEDS))))))
        (pss_one (ps_ret (pe_tup (pa_cons pe_str pa_nil))))
        pss_nil)
      (pss_cons (ps_for PassesOwn.never (by rfl) (pi_enumT (by rfl) T.z_enumerate (pa_cons (pv 0) pa_nil)) (pg_tup (by rfl) (pgs_cons (pg_name (i := 1) sc_signature_wrong.nd rfl (.inl rfl)) (pgs_cons (pg_name (i := 2) sc_signature_wrong.nd rfl (.inl rfl)) pgs_nil)))
        (pss_one (ps_if (pt_not (pt_val (pe_cl c_is_deed hr (by first | decide | omega) (by rfl) (pa_cons (pv 2) pa_nil))))
          (pss_one (ps_ret (pe_tup (pa_cons pe_str (pa_cons (pv 1) pa_nil)))))
          pss_nil)))
      (pss_cons (ps_setLc (i := 3) (own := [("deed", 2)]) (g := (gName 2)) (by rfl) sc_signature_wrong.nd rfl rfl (sw_true rfl rfl rfl (by decide +kernel)) (pi_tup (pv 0)) (blkOk_by (own := [("deed", 2)]) (N := ["thing", "k", "deed", "names", "name"]) (sc := defScope s_signature_wrong) (by decide +kernel)) (fun _ _ _ _ _ => (pg_name (i := 2) sc_signature_wrong.nd rfl (.inl rfl))) (fun _ _ _ _ _ => pts_nil) (fun _ _ _ _ _ => (pe_ix (ix_tupK K) (pv 2) pe_int (fun _ _ => rfl))))
      (pss_cons (ps_for PassesOwn.never (by rfl) (pi_enum (by rfl) T.z_enumerate (pa_cons (pv 3) pa_nil)) (pg_tup (by rfl) (pgs_cons (pg_name (i := 1) sc_signature_wrong.nd rfl (.inl rfl)) (pgs_cons (pg_name (i := 4) sc_signature_wrong.nd rfl (.inl rfl)) pgs_nil)))
        (pss_one (ps_if (pt_cmpR op_in_seq (pv 4) (pe_slice sl_list (pv 3) po_none (po_some (pv 1))) (by rfl))
          (pss_one (ps_ret (pe_tup (pa_cons pe_str (pa_cons (pv 1) pa_nil)))))
          pss_nil)))
      (pss_one (ps_ret pe_non)))))), ?_⟩
    replace hv : Dz K p c H v d := hv
    replace wd : Gb 50 100000 d := wd
    replace q : ∀ r H', Ex H H' → Dp K H' r (sigW d) → Q r H' := q
    have none1 : ∀ {v0 : V} {H1 : Hp}, Ex H H1 → sigW d = .tuple [.str "signature"] → tRet (tTup (tCons (tC (.str "signature")) tNil)) { nx := fun _ H' => Q .non H', rt := Q } [some v0, none, none, none, none] H1 := fun {v0 H1} e1 hw => s_retU (eu_tup (ea_cons ev_c ea_nil) (by show 1 ≤ 100000; decide)) fun r H2 _ e2 hr2 => q _ H2 (e1.trans e2) (by rw [hw]; exact .tup (st_of hr2) (.cons (.str _) .nil))
    by_cases hs2 : isTup d = false
    · exact q_when (b := true) (et_is (et_or (a := true) (b := false) (et_is (et_not (et_val (ev_isTup (K := K) (ev_var rfl) ev_c hv))) (by rw [hs2]; rfl)) (fun z => by cases z)) rfl) (fun _ H1 e1 => none1 e1 (by cases d <;> first | rfl | cases hs2)) (fun hb => by cases hb)
    have hs : isTup d = true := by simpa using hs2
    obtain ⟨a, us, ds, rfl, rfl, hS, r⟩ := tup_of hv hs
    have hl : us.length = ds.length := r.len
    have wt := wd.wgt
    rw [PyData.weight] at wt
    have wl := weight_len ds
    have fst : EvT (tOr (tNot (tB (tCB (rIsi K) (tCons (tVar 0) (tCons (tC (.ty "tuple")) tNil))))) (tNot (tTest (tChain (rI0 fun i j => .bl (decide (i ≤ j))) (rI0 fun i j => .bl (decide (i ≤ j))) (tC (.int 1)) (tCB (rLenS K) (tCons (tVar 0) tNil)) (tC (.int 4)))))) [some (V.ref a), none, none, none, none] H (!(decide (1 ≤ ds.length) && decide (ds.length ≤ 4))) := et_is (et_or (a := false) (b := !(decide (1 ≤ ds.length) && decide (ds.length ≤ 4))) (et_is (et_not (et_val (ev_isTup (K := K) (p := p) (c := c) (ev_var rfl) ev_c (.tup hS r)))) rfl) (fun _ => et_is (et_not (et_test (ev_chain ev_c (ev_lenT (ev_var rfl) hS) (fun _ => ev_c) rv_I0 (fun _ => rv_I0)))) (by
      show (!(decide ((1 : Int) ≤ (us.length : Int)) && decide ((us.length : Int) ≤ 4))) = _
      congr 2 <;> (rw [decide_eq_decide]; omega)))) (by rw [Bool.false_or])
    refine q_when fst (fun hb H1 e1 => none1 e1 ?_) (fun hb H1 e1 => ?_)
    · rw [Bool.not_eq_true'] at hb
      rw [sigW, if_neg]
      intro hh
      rw [decide_eq_true hh.1, decide_eq_true hh.2] at hb
      cases hb
    rw [Bool.not_eq_false', Bool.and_eq_true, decide_eq_true_eq, decide_eq_true_eq] at hb
    -- each is a deed
    refine q_enumT (K := K) (ea_cons (ev_var rfl) ea_nil) (ex_t e1 hS) (fun i σ H' => Ex H H' ∧ (∀ j, j < i → deedB (ds.getD j .none) = true) ∧ ∃ y1 y2, σ = [some (.ref a), y1, y2, none, none]) (fun H2 e2 => ⟨e1.trans e2, fun j hj => absurd hj (Nat.not_lt_zero _), none, none, rfl⟩) (fun i σ H' _ ⟨e, _⟩ => ex_t e hS) (fun i x σ H2 H3 hx ⟨e, good, y1, y2, hσ⟩ e3 => ?_) (fun σ H2 ⟨e2, good, y1, y2, hσ⟩ => ?_)
    · subst hσ
      have hi : i < ds.length := by rw [← hl]; exact (List.getElem?_eq_some_iff.mp hx).1
      obtain ⟨x', ex', dx⟩ := r.get hx
      have gd : ds.getD i .none = x' := by rw [List.getD_eq_getElem?_getD, ex']; rfl
      have e03 : Ex H H3 := e.trans e3
      have wx : Gb 50 100000 x' := gb_mem wd (List.mem_of_getElem? ex')
      refine s_when (b := !deedB x') (et_not (et_val (ev_callV (v := .bl (deedB x')) ((p, c), x') (ea_cons (ev_var rfl) ea_nil) (fun H4 e4 => ⟨⟨_, rfl, dx.ex (e03.trans e4)⟩, wx⟩) (fun _ _ z => z)))) (fun hb2 H4 e4 => ?_) (fun hb2 H4 e4 => ⟨e03.trans e4, fun j hj => ?_, _, _, rfl⟩)
      · rw [Bool.not_eq_true'] at hb2
        refine s_retU (eu_tup (vs := [.str "deed", vi i]) (ea_cons ev_c (ea_cons (ev_var rfl) ea_nil)) (by show 2 ≤ 100000; decide)) fun r2 H5 _ e5 hr5 => q _ H5 ((e03.trans e4).trans e5) ?_
        obtain ⟨rr, hrr⟩ := oddK_first hi good (by rw [gd]; exact hb2)
        rw [sigW, if_pos hb, hrr]
        exact .tup (st_of hr5) (.cons (.str _) (.cons (.int _) .nil))
      · rw [Bool.not_eq_false'] at hb2
        by_cases z : j < i
        · exact good j z
        · rw [show j = i by omega, gd]
          exact hb2
    · subst hσ
      rw [hl] at good
      have none2 := oddK_none good
      -- the names
      have names : EvL (tLc (iTup K (tVar 0)) (gName 2) tYes (tOp (rIxT K) (tVar 2) (tC (.int 0))) [2]) [some (.ref a), y1, y2, none, none] H2 ((List.range us.length).map fun i => .str (nameOf (ds.getD i .none))) := by
        refine el_lcT (ev_var rfl) (ex_t e2 hS) _ (by omega) (fun _ => rfl) (fun i x H3 e3 hx => ?_)
        have hi : i < ds.length := by rw [← hl]; exact (List.getElem?_eq_some_iff.mp hx).1
        obtain ⟨x', ex', dx⟩ := r.get hx
        have gd : ds.getD i .none = x' := by rw [List.getD_eq_getElem?_getD, ex']; rfl
        obtain ⟨ca, z, y, rfl, s1, nz⟩ := deedB_name (by rw [← gd]; exact good i hi) (dx.ex (e2.trans e3))
        rw [gd, nz]
        exact ev_op (ev_var rfl) ev_c (rv_ixT (K := K) s1 (atI_vi (k := 0) rfl))
      rw [hl] at names
      have eN : ((List.range ds.length).map fun i => V.str (nameOf (ds.getD i .none))) = (ds.map nameOf).map V.str := by
        apply List.ext_getElem?
        intro i
        by_cases hi : i < ds.length
        · rw [List.getElem?_map, List.getElem?_range hi, List.getElem?_map, List.getElem?_map, List.getElem?_eq_getElem hi]
          show some (V.str (nameOf (ds.getD i .none))) = some (V.str (nameOf ds[i]))
          rw [List.getD_eq_getElem?_getD, List.getElem?_eq_getElem hi]
          rfl
        · rw [List.getElem?_eq_none_iff.mpr (by simp; omega), List.getElem?_eq_none_iff.mpr (by simp; omega)]
      rw [eN] at names
      obtain ⟨ns, hns⟩ : ∃ ns, ns = ds.map nameOf := ⟨_, rfl⟩
      rw [← hns] at names
      have ln : ns.length = ds.length := by rw [hns, List.length_map]
      refine q_asgL names fun pl H3 np e3 hp => ?_
      have e03 : Ex H H3 := e2.trans e3
      refine q_enumL (K := K) (ea_cons (ev_var rfl) ea_nil) (sq_of hp) (fun i σ H' => Ex H3 H' ∧ (∀ j, j < i → decide (ns.getD j "" ∈ ns.take j) = false) ∧ ∃ z1 z4, σ = [some (.ref a), z1, y2, some (.ref pl), z4]) (fun H4 e4 => ⟨e4, fun j hj => absurd hj (Nat.not_lt_zero _), _, _, rfl⟩) (fun i σ H' _ ⟨e, _⟩ => ex_l e (sq_of hp)) (fun i x σ H4 H5 hx ⟨e4, good2, z1, z4, hσ⟩ e5 => ?_) (fun σ H4 ⟨e4, good2, z1, z4, hσ⟩ => ?_)
      · subst hσ
        have hi : i < ns.length := by simpa using (List.getElem?_eq_some_iff.mp hx).1
        have ex : x = .str ns[i] := by
          rw [List.getElem?_map, List.getElem?_eq_getElem hi] at hx
          exact (Option.some.inj hx).symm
        subst ex
        have gd : ns.getD i "" = ns[i] := by rw [List.getD_eq_getElem?_getD, List.getElem?_eq_getElem hi]; rfl
        have cut : cutV (ns.map V.str) none (some (i : Int)) = (ns.take i).map V.str := by
          unfold cutV
          rw [HT.sIx_none, HT.sIx_nat, List.length_map, Nat.sub_zero, List.drop_zero, ← List.map_take, Nat.min_eq_left (Nat.le_of_lt hi)]
        have eL : Ex H3 H5 := e4.trans e5
        have sl : EvL (tSl (rSlL K) (tVar 3) tNoPart (tPart (tVar 1))) [some (.ref a), some (vi i), y2, some (.ref pl), some (.str ns[i])] H5 ((ns.take i).map V.str) := by
          rw [← cut]
          exact el_sl (ev_var rfl) eo_none (eo_some (ev_var rfl)) (ex_l eL (sq_of hp))
        refine s_when (b := decide (ns[i] ∈ ns.take i)) (et_is (et_test (ev_opL (ev_var rfl) sl (fun r H6 hr6 _ => rv_isL (sq_of hr6) rfl (flat_all _)))) (inV_str ..)) (fun hb2 H6 e6 => ?_) (fun hb2 H6 e6 => ⟨eL.trans e6, fun j hj => ?_, _, _, rfl⟩)
        · refine s_retU (eu_tup (vs := [.str "twice", vi i]) (ea_cons ev_c (ea_cons (ev_var rfl) ea_nil)) (by show 2 ≤ 100000; decide)) fun r2 H7 _ e7 hr7 => q _ H7 ((e03.trans (eL.trans e6)).trans e7) ?_
          obtain ⟨rr, hrr⟩ : ∃ r, twiceK ns = i :: r := filt_first (by omega) good2 (by rw [gd]; exact hb2)
          rw [sigW, if_pos hb, none2, ← hns, hrr]
          exact .tup (st_of hr7) (.cons (.str _) (.cons (.int _) .nil))
        · by_cases z : j < i
          · exact good2 j z
          · rw [show j = i by omega, gd]
            exact hb2
      · subst hσ
        rw [List.length_map] at good2
        refine s_ret ev_c fun H5 e5 => q _ H5 ((e03.trans e4).trans e5) ?_
        have nt : twiceK ns = [] := filt_none good2
        rw [sigW, if_pos hb, none2, ← hns, nt]
        exact .non
end
end K11
end
section
namespace K11
open PySem PySem.Spec PyProof.Rows L2 Evl RZ Dw M20
/-- what the top says of the errors' classes -/
structure ErS (K : PySem.W.Frag) (mg : Str → Option Value) (S0 G0 a1 a2 a3 a4 a5 a6 a7 a8 : Addr) : Prop where
  s : ExcT K mg "NoSignature" S0
  g : mg "DeedError" = some (.ref G0)
  xs : PySem.W.exmOne K (.ref S0) (.ref G0) = some true
  m1 : mg "NoEquation" = some (.ref a1)
  m2 : mg "NoKind" = some (.ref a2)
  m3 : mg "NoModel" = some (.ref a3)
  m4 : mg "NoPlace" = some (.ref a4)
  m5 : mg "NoPutting" = some (.ref a5)
  m6 : mg "NoTerm" = some (.ref a6)
  m7 : mg "NoText" = some (.ref a7)
  m8 : mg "TooBig" = some (.ref a8)
  ht : PySem.W.kitOne K (.ref S0) (.ref S0) = some true
  hs : PySem.W.kitAny K (.ref S0) [.ref a1, .ref a2, .ref a3, .ref a4, .ref a5, .ref a6, .ref a7, .ref a8] = some false
  hv : PySem.W.kitOne K (.ref S0) (.type "ValueError") = some true
section
variable {P : Program} {w : World} {K : PySem.W.Frag} {mg : Str → Option Value} {base : Heap} {σ : L2.St} {H H' : Hp} {p c : Addr} {n : Nat} {v : V} {d : PyData} {S0 G0 a1 a2 a3 a4 a5 a6 a7 a8 : Addr}
/-- what is no signature, ahead of anything -/
def SPre (K : PySem.W.Frag) (p c : Addr) (n : Nat) (d : PyData) (vs : List V) (H : Hp) : Prop := (∃ v r, vs = v :: r ∧ r.length = n ∧ Dz K p c H v d) ∧ Gb 50 100000 d ∧ sigW d ≠ .none
def SPreX (K : PySem.W.Frag) (n : Nat) (z : (Addr × Addr) × PyData) (vs : List V) (H : Hp) : Prop := SPre K z.1.1 z.1.2 n z.2 vs H
theorem s_ifX {r : R2} {sp : Sp} {E : L2.St → XK} {ta : TA} {tb : TE} {tu tw : TS} {D : Ends} (h : ta σ H fun vs H1 => sp vs H1 (fun x H2 => tb σ H2 fun y H3 => r x y H3 fun z H4 => ∃ k, z = .bl k ∧ (if k = true then tu D σ H4 else tw D σ H4)) (E σ)) : tIfS (tTest (tOp r (tCallS sp E ta) tb)) tu tw D σ H := h
theorem sig_ref {v : V} {d : PyData} (h : Dp K H v (sigW d)) (ne : sigW d ≠ .none) : ∃ a, v = .ref a := by
  have e : sigW d = .none ∨ ∃ ds, sigW d = .tuple ds := by
    unfold sigW
    split
    · split
      · split
        · exact .inr ⟨_, rfl⟩
        · split
          · exact .inr ⟨_, rfl⟩
          · exact .inl rfl
      · exact .inr ⟨_, rfl⟩
    · exact .inr ⟨_, rfl⟩
  rcases e with e | ⟨ds, e⟩
  · exact absurd e ne
  · rw [e] at h
    cases h with
    | tup s _ => exact ⟨_, rfl⟩
theorem c_need_signatureS (T : Txt mg) (D : Df K mg "need_signature" s_need_signature ["signature"]) (er : ErS K mg S0 G0 a1 a2 a3 a4 a5 a6 a7 a8) (c_sig_any : Cl P w K mg base 4 "signature_wrong" (sp_sig_any K)) : ClX P w K mg base 5 "need_signature" (spE S0 (SPreX K 0)) := by
  refine clx_of (k := 4) D sc_need_signature (fun vs H Q E h => ?_) (fun f cdv A outer s H vs Q E hr h => ?_)
  · obtain ⟨d, ⟨⟨v, r, rfl, l, _⟩, _⟩, _⟩ := h
    rw [List.eq_nil_of_length_eq_zero l]
    rfl
  · obtain ⟨⟨⟨p, c⟩, d⟩, ⟨⟨v, r, rfl, l, hv⟩, wd, bad⟩, q⟩ := h
    replace hv : Dz K p c H v d := hv
    replace wd : Gb 50 100000 d := wd
    replace bad : sigW d ≠ .none := bad
    rw [List.eq_nil_of_length_eq_zero l]
    have c_signature_wrong := c_sig_any
    refine ⟨_, (pss_one (ps_if (pt_cmpR op_notN (pe_cl c_signature_wrong hr (by first | decide | omega) (by rfl) (pa_cons (pv 0) pa_nil)) pe_non (nomark _))
        (pss_one (ps_raise rfl (takes_of rfl rfl rfl rfl) (pmk_own PySem.F.excBase_ValueError er.s.q er.s.g er.s.k (raises_own er.s.c.hs er.s.t) (by rfl))))
        pss_nil)), ?_⟩
    exact s_when (b := true) (et_isNP ((ep_call ((p, c), d) (ea_cons (ev_var rfl) ea_nil) (fun H1 e1 => ⟨⟨_, rfl, hv.ex e1⟩, wd⟩)).imp fun r H1 _ hr1 => sig_ref hr1 bad)) (fun _ H1 e1 => q H1 e1) (fun hb => by cases hb)
theorem one_of {α : Type} {r : List α} (l : r.length = 1) : ∃ x, r = [x] := by
  match r, l with
  | [x], _ => exact ⟨x, rfl⟩
theorem two_of {α : Type} {r : List α} (l : r.length = 2) : ∃ x y, r = [x, y] := by
  match r, l with
  | [x, y], _ => exact ⟨x, y, rfl⟩
end
end K11
end
section
namespace K11
open PySem PySem.Spec PyProof.Rows L2 Evl RZ Dw M20
section
variable {P : Program} {w : World} {K : PySem.W.Frag} {mg : Str → Option Value} {base : Heap} {σ : L2.St} {H H' : Hp} {p c : Addr} {n : Nat} {v : V} {d : PyData}
end
end K11
end
section
namespace K11
open PySem PySem.Spec PyProof.Rows L2 Evl RZ Dw M20
section
variable {P : Program} {w : World} {K : PySem.W.Frag} {mg : Str → Option Value} {base : Heap} {σ : L2.St} {H H' : Hp} {p c : Addr} {n : Nat} {v : V} {d : PyData}
theorem cw_ex1 {f : Nat → Bool} {u : Nat → V} {Dl : Addr} {i : Nat} {H2 H3 : Hp} (h : Cw H f u Dl i H2) (e : Ex H2 H3) : Cw H f u Dl i H3 := ⟨h.1, h.2.1.trans e, e _ _ h.2.2⟩
end
end K11
end
section
namespace K11
open PySem PySem.Spec PyProof.Rows L2 Evl RZ Dw M20
/-! bounded rows of data -/
structure GbA (k W : Nat) (ds : List PyData) : Prop where
  lay : PyData.canLayAll0 ds = true
  dep : PyData.depthAll ds ≤ k
  wgt : PyData.weightAll ds ≤ W
  its : PyData.intsShortAll 40 ds = true
  sho : PyData.showableAll ds = true
theorem GbA.mono {k W k' W' : Nat} {d : List PyData} (h : GbA k W d) (a : k ≤ k') (b : W ≤ W') : GbA k' W' d := ⟨h.lay, Nat.le_trans h.dep a, Nat.le_trans h.wgt b, h.its, h.sho⟩
theorem gba_nil : GbA 0 0 [] := ⟨by rw [PyData.canLayAll0], by rw [PyData.depthAll]; exact Nat.le_refl _, by rw [PyData.weightAll]; exact Nat.le_refl _, by rw [PyData.intsShortAll], by rw [PyData.showableAll]⟩
theorem gba_cons {k W W' : Nat} {d : PyData} {ds : List PyData} (g : Gb k W d) (h : GbA k W' ds) : GbA k (W + 1 + W') (d :: ds) := by
  have g1 := g.dep
  have g2 := g.wgt
  have h1 := h.dep
  have h2 := h.wgt
  exact ⟨by rw [PyData.canLayAll0, g.lay, h.lay]; rfl, by rw [PyData.depthAll]; omega, by rw [PyData.weightAll]; omega, by rw [PyData.intsShortAll, g.its, h.its]; rfl, by rw [PyData.showableAll, g.sho, h.sho]; rfl⟩
theorem gba_one {k W : Nat} {d : PyData} (g : Gb k W d) : GbA k (W + 1) [d] := gba_cons g (gba_nil.mono (Nat.zero_le _) (Nat.le_refl _))
theorem gba_app {k W W' : Nat} : ∀ {as bs : List PyData}, GbA k W as → GbA k W' bs → GbA k (W + W') (as ++ bs)
  | [], bs, _, h => h.mono (Nat.le_refl _) (by omega)
  | d :: as, bs, g, h => by
    have g1 := g.lay
    have g2 := g.dep
    have g3 := g.wgt
    have g4 := g.its
    have g5 := g.sho
    rw [PyData.canLayAll0, Bool.and_eq_true] at g1
    rw [PyData.depthAll] at g2
    rw [PyData.weightAll] at g3
    rw [PyData.intsShortAll, Bool.and_eq_true] at g4
    rw [PyData.showableAll, Bool.and_eq_true] at g5
    have r := gba_app (k := k) (W := PyData.weightAll as) (W' := W') (as := as) (bs := bs) ⟨g1.2, by omega, Nat.le_refl _, g4.2, g5.2⟩ h
    exact (gba_cons (k := k) (W := d.weight) ⟨g1.1, by omega, Nat.le_refl _, g4.1, g5.1⟩ r).mono (Nat.le_refl _) (by omega)
theorem gb_tup {k W : Nat} {ds : List PyData} (h : GbA k W ds) : Gb (k + 1) W (.tuple ds) := ⟨by rw [PyData.canLay0]; exact h.lay, by rw [PyData.depth]; have := h.dep; omega, by rw [PyData.weight]; exact h.wgt, by rw [PyData.intsShort]; exact h.its, by rw [PyData.showable]; exact h.sho⟩
theorem gb_lst {k W : Nat} {ds : List PyData} (h : GbA k W ds) : Gb (k + 1) W (.list ds) := ⟨by rw [PyData.canLay0]; exact h.lay, by rw [PyData.depth]; have := h.dep; omega, by rw [PyData.weight]; exact h.wgt, by rw [PyData.intsShort]; exact h.its, by rw [PyData.showable]; exact h.sho⟩
theorem gb_inv {k W : Nat} {ds : List PyData} (g : Gb k W (.tuple ds)) : GbA k W ds := by
  have g1 := g.lay
  have g2 := g.dep
  have g3 := g.wgt
  have g4 := g.its
  have g5 := g.sho
  rw [PyData.canLay0] at g1
  rw [PyData.depth] at g2
  rw [PyData.weight] at g3
  rw [PyData.intsShort] at g4
  rw [PyData.showable] at g5
  exact ⟨g1, by omega, g3, g4, g5⟩
theorem gb_str {z : Str} (h : (∀ c ∈ z.cps.toList, c < 0x110000) ∧ z.cps.size ≤ 22) : Gb 0 22 (.str z) := K11.Gd.gb (gd_strN h.1 h.2 (by decide))
theorem gb_none : Gb 0 0 .none := ⟨by rw [PyData.canLay0], by rw [PyData.depth]; decide, by rw [PyData.weight]; decide, by rw [PyData.intsShort], by rw [PyData.showable]⟩
theorem gb_int {i : Int} (w : (PyData.int i).weight ≤ 100) (s : (PyData.int i).intsShort 40 = true) (h : (PyData.int i).showable = true) : Gb 0 100 (.int i) := ⟨by rw [PyData.canLay0], by rw [PyData.depth]; exact Nat.le_refl _, w, s, h⟩
section
variable {P : Program} {w : World} {K : PySem.W.Frag} {mg : Str → Option Value} {base : Heap} {σ : L2.St} {H H' Hb : Hp} {p c : Addr} {n m k W : Nat} {v : V} {d : PyData}
/-- data of bounded size -/
def ThZ (K : PySem.W.Frag) (p c : Addr) (k W : Nat) (v : V) (H : Hp) : Prop := ∃ d, Dz K p c H v d ∧ Gb k W d
theorem ThZ.ex (e : Ex H H') (h : ThZ K p c k W v H) : ThZ K p c k W v H' := let ⟨d, x, y⟩ := h; ⟨d, x.ex e, y⟩
theorem ThZ.off (pu : Pur H p c n) (o : Off H H' p c) (h : ThZ K p c k W v H) : ThZ K p c k W v H' := let ⟨d, x, y⟩ := h; ⟨d, x.off pu o, y⟩
theorem ThZ.mono {k' W' : Nat} (h : ThZ K p c k W v H) (a : k ≤ k') (b : W ≤ W') : ThZ K p c k' W' v H := let ⟨d, x, y⟩ := h; ⟨d, x, y.mono a b⟩
/-- a tuple of so many values, bounded -/
def RwZ (K : PySem.W.Frag) (p c : Addr) (k W : Nat) (vs : List V) (H : Hp) : Prop := ∃ ds, DzAll K p c H vs ds ∧ GbA k W ds
theorem RwZ.ex {vs : List V} (e : Ex H H') (h : RwZ K p c k W vs H) : RwZ K p c k W vs H' := let ⟨ds, x, y⟩ := h; ⟨ds, x.ex e, y⟩
end
end K11
end
section
namespace K11
open PySem PySem.Spec PyProof.Rows L2 Evl RZ Dw M20
section
variable {P : Program} {w : World} {K : PySem.W.Frag} {mg : Str → Option Value} {base : Heap} {σ : L2.St} {H H' Hb : Hp} {p c : Addr} {n m k W : Nat} {v : V} {d : PyData}
/-- a list of so many such -/
def LsZ (K : PySem.W.Frag) (p c : Addr) (k W n : Nat) (v : V) (H : Hp) : Prop := ∃ (l : Addr) (vs : List V), v = .ref l ∧ H l = some (.lst vs) ∧ l ≠ p ∧ l ≠ c ∧ vs.length = n ∧ ∀ x ∈ vs, ThZ K p c k W x H
theorem LsZ.ex (e : Ex H H') (h : LsZ K p c k W n v H) : LsZ K p c k W n v H' := let ⟨l, vs, a, b, d, f, g, i⟩ := h; ⟨l, vs, a, e _ _ b, d, f, g, fun x hx => (i x hx).ex e⟩
theorem gb_s {z : Str} (h : (∀ c ∈ z.cps.toList, c < 0x110000) ∧ z.cps.size ≤ 22) : Gb 2 100 (.str z) := (gb_str h).mono (by decide) (by decide)
theorem gb_i {i : Int} (h : (PyData.int i).weight ≤ 100 ∧ (PyData.int i).intsShort 40 = true ∧ (PyData.int i).showable = true) : Gb 2 100 (.int i) := (gb_int h.1 h.2.1 h.2.2).mono (by decide) (by decide)
theorem shapedB {k W : Nat} {d : PyData} (h : Gb k W d) (a : k ≤ 60) : SeqAt.shaped d = true := by
  have dp := h.dep
  show (d.canLay0 && decide (d.depth ≤ 64)) = true
  rw [h.lay, decide_eq_true (show d.depth ≤ 64 by omega)]
  rfl
end
end K11
end
section
namespace K11
open PySem PySem.Spec PyProof.Rows L2 Evl RZ Dw M20
section
variable {P : Program} {w : World} {K : PySem.W.Frag} {mg : Str → Option Value} {base : Heap} {σ : L2.St} {H H' Hb : Hp} {p c : Addr} {n m k W : Nat} {v : V} {d : PyData} {S0 G0 a1 a2 a3 a4 a5 a6 a7 a8 : Addr}
end
end K11
end
section
namespace K11
open PySem PySem.Spec PyProof.Rows L2 Evl RZ Dw M20
/-! what is wrong in a model, as data -/
def sizeB : PyData → Bool
  | .int i => decide (1 ≤ i) && decide (i ≤ 6)
  | _ => false
def cellsOf : PyData → List PyData
  | .tuple cs => cs
  | _ => []
def tableB (n pl : Nat) : PyData → Bool
  | .tuple cs => decide (cs.length = n ^ pl)
  | _ => false
def plOf (sg : List (Str × Nat)) (k : Nat) : Nat := (sg.getD k ("", 0)).2
def badK (sg : List (Str × Nat)) (n : Nat) (tds : List PyData) : List Nat := (List.range sg.length).filter fun k => !tableB n (plOf sg k) (tds.getD k .none)
def oddRow (n : Nat) (cs : List PyData) : List Nat := (List.range cs.length).filter fun j => !belowB (n : Int) (cs.getD j .none)
def oddT (n : Nat) (tds : List PyData) : List Nat := (List.range tds.length).filter fun k => !(oddRow n (cellsOf (tds.getD k .none))).isEmpty
def intD (k : Nat) : PyData := .int ((k : Nat) : Int)
/-- the first odd cell -/
def oddW (n : Nat) (tds : List PyData) : Option (Nat × Nat) := match oddT n tds with
  | k :: _ => match oddRow n (cellsOf (tds.getD k .none)) with
    | j :: _ => some (k, j)
    | [] => none
  | [] => none
def modW4 (sg : List (Str × Nat)) (n : Nat) (tds : List PyData) : PyData := match badK sg n tds with
  | k :: _ => .tuple [.str "table", intD k]
  | [] => match oddW n tds with
    | some (k, j) => .tuple [.str "cell", intD k, intD j]
    | none => .none
def modW3 (sg : List (Str × Nat)) : PyData → PyData → PyData
  | .int i, .tuple tds => if tds.length = sg.length then modW4 sg i.toNat tds else .tuple [.str "tables"]
  | _, _ => .tuple [.str "tables"]
def modW2 (sg : List (Str × Nat)) (s t : PyData) : PyData := if sizeB s = true then modW3 sg s t else .tuple [.str "size"]
def modW (sg : List (Str × Nat)) : PyData → PyData
  | .tuple [s, t] => modW2 sg s t
  | _ => .tuple [.str "model"]
theorem oddRow_none {n : Nat} {cs : List PyData} (h : ∀ j, j < cs.length → belowB (n : Int) (cs.getD j .none) = true) : oddRow n cs = [] := filt_none (fun j hj => by rw [h j hj]; rfl)
theorem oddRow_first {n i : Nat} {cs : List PyData} (hi : i < cs.length) (h0 : ∀ j, j < i → belowB (n : Int) (cs.getD j .none) = true) (h1 : belowB (n : Int) (cs.getD i .none) = false) : ∃ r, oddRow n cs = i :: r := filt_first hi (fun j hj => by rw [h0 j hj]; rfl) (by rw [h1]; rfl)
theorem oddT_none {n : Nat} {tds : List PyData} (h : ∀ k, k < tds.length → oddRow n (cellsOf (tds.getD k .none)) = []) : oddW n tds = none := by
  have e : oddT n tds = [] := filt_none (fun k hk => by rw [h k hk]; rfl)
  rw [oddW, e]
theorem oddT_first {n k j : Nat} {tds : List PyData} {r : List Nat} (hk : k < tds.length) (h0 : ∀ i, i < k → oddRow n (cellsOf (tds.getD i .none)) = []) (h1 : oddRow n (cellsOf (tds.getD k .none)) = j :: r) : oddW n tds = some (k, j) := by
  obtain ⟨r2, e⟩ : ∃ r2, oddT n tds = k :: r2 := filt_first hk (fun i hi => by rw [h0 i hi]; rfl) (by rw [h1]; rfl)
  rw [oddW, e]
  show (match oddRow n (cellsOf (tds.getD k .none)) with
    | j :: _ => some (k, j)
    | [] => none) = some (k, j)
  rw [h1]
section
variable {P : Program} {w : World} {K : PySem.W.Frag} {mg : Str → Option Value} {base : Heap} {σ : L2.St} {H H' Hb : Hp} {p c : Addr} {n m k W : Nat} {v : V} {d : PyData}
def sp_size_any (K : PySem.W.Frag) : Sp := spX (fun (z : (Addr × Addr) × PyData) vs H => ∃ v, vs = [v] ∧ Dz K z.1.1 z.1.2 H v z.2) (fun z v H => v = .bl (sizeB z.2))
theorem c_size_any (T : Txt mg) (D : Df K mg "is_size" s_is_size ["thing"]) (c_whole_any : Cl P w K mg base 1 "is_whole" (sp_whole_any K)) : Cl P w K mg base 2 "is_size" (sp_size_any K) := by
  refine cl_of (k := 1) D sc_is_size (fun vs H Q E h => ?_) (fun f cdv A outer s H vs Q E hr h => ?_)
  · obtain ⟨d, ⟨v, rfl, _⟩, _⟩ := h
    rfl
  · obtain ⟨⟨⟨p, c⟩, d⟩, ⟨v, rfl, hv⟩, q⟩ := h
    have c_is_whole := c_whole_any
    refine ⟨_, (pss_one (ps_ret (pe_and (pe_cl c_is_whole hr (by first | decide | omega) (by rfl) (pa_cons (pv 0) pa_nil)) (pe_one (pe_chain op_le op_le pe_int (pv 0) (pe_gi (by rfl) T.c_MOST_SIZE)))))), ?_⟩
    replace hv : Dz K p c H v d := hv
    replace q : ∀ r H', Ex H H' → r = .bl (sizeB d) → Q r H' := q
    by_cases hw : wholeB d = true
    · obtain ⟨i, rfl, rfl⟩ := whole_int hv hw
      refine s_ret (ev_andV (a := true) (b := sizeB (.int i)) (ev_callV (v := .bl true) ((p, c), PyData.int i) (ea_cons (ev_var rfl) ea_nil) (fun H1 e1 => ⟨_, rfl, .int i⟩) (fun _ _ z => z.trans rfl)) (fun _ => ev_chain ev_c (ev_var rfl) (fun _ => ev_c) rv_I0 (fun _ => rv_I0))) fun H1 e1 => q _ H1 e1 rfl
    · have hw2 : wholeB d = false := by simpa using hw
      refine s_ret (ev_andV (a := false) (b := false) (ev_callV (v := .bl false) ((p, c), d) (ea_cons (ev_var rfl) ea_nil) (fun H1 e1 => ⟨_, rfl, hv.ex e1⟩) (fun _ _ z => by rw [z, hw2])) (fun z => by cases z)) fun H1 e1 => q _ H1 e1 ?_
      cases d <;> first | rfl | cases hw2
/-- what first_odd_cell tells -/
def oddD (n : Nat) (tds : List PyData) : PyData := match oddW n tds with
  | some (k, j) => .tuple [intD k, intD j]
  | none => .none
theorem put_get {us : List V} {ds : List PyData} (r : DzAll K p c H us ds) {i : Nat} {x : V} (hx : us[i]? = some x) : i < ds.length ∧ ∃ x', ds[i]? = some x' ∧ ds.getD i .none = x' ∧ Dz K p c H x x' := by
  obtain ⟨x', ex', dx⟩ := r.get hx
  exact ⟨(List.getElem?_eq_some_iff.mp ex').1, x', ex', by rw [List.getD_eq_getElem?_getD, ex']; rfl, dx⟩
def sp_odd_any (K : PySem.W.Frag) : Sp := spX (fun (z : (Addr × Addr) × Nat × List PyData) vs H => (∃ a us, vs = [vi z.2.1, .ref a] ∧ SqT K H a us ∧ DzAll K z.1.1 z.1.2 H us z.2.2) ∧ ∀ t ∈ z.2.2, isTup t = true) (fun z v H => Dp K H v (oddD z.2.1 z.2.2))
theorem c_odd_any (T : Txt mg) (D : Df K mg "first_odd_cell" s_first_odd_cell ["size", "tables"]) (c_below_any : Cl P w K mg base 2 "is_below" (sp_below_any K)) : Cl P w K mg base 3 "first_odd_cell" (sp_odd_any K) := by
  refine cl_of (k := 2) D sc_first_odd_cell (fun vs H Q E h => ?_) (fun f cdv A outer s H vs Q E hr h => ?_)
  · obtain ⟨z, ⟨⟨a, us, rfl, _⟩, _⟩, _⟩ := h
    rfl
  · obtain ⟨⟨⟨p, c⟩, n, tds⟩, ⟨⟨a, us, rfl, hS, r⟩, tups⟩, q⟩ := h
    have c_is_below := c_below_any
    refine ⟨_, (pss_cons (ps_for PassesOwn.never (by rfl) (pi_enumT (by rfl) T.z_enumerate (pa_cons (pv 1) pa_nil)) (pg_tup (by rfl) (pgs_cons (pg_name (i := 2) sc_first_odd_cell.nd rfl (.inl rfl)) (pgs_cons (pg_name (i := 3) sc_first_odd_cell.nd rfl (.inl rfl)) pgs_nil)))
        (pss_one (ps_for PassesOwn.never (by rfl) (pi_enumT (by rfl) T.z_enumerate (pa_cons (pv 3) pa_nil)) (pg_tup (by rfl) (pgs_cons (pg_name (i := 4) sc_first_odd_cell.nd rfl (.inl rfl)) (pgs_cons (pg_name (i := 5) sc_first_odd_cell.nd rfl (.inl rfl)) pgs_nil)))
          (pss_one (ps_if (pt_not (pt_val (pe_cl c_is_below hr (by first | decide | omega) (by rfl) (pa_cons (pv 5) (pa_cons (pv 0) pa_nil)))))
            (pss_one (ps_ret (pe_tup (pa_cons (pv 2) (pa_cons (pv 4) pa_nil)))))
            pss_nil)))))
      (pss_one (ps_ret pe_non))), ?_⟩
    replace hS : SqT K H a us := hS
    replace r : DzAll K p c H us tds := r
    replace tups : ∀ t ∈ tds, isTup t = true := tups
    replace q : ∀ r H', Ex H H' → Dp K H' r (oddD n tds) → Q r H' := q
    have hl := r.len
    refine q_enumT (K := K) (ea_cons (ev_var rfl) ea_nil) hS (fun i σ H' => Ex H H' ∧ (∀ j, j < i → oddRow n (cellsOf (tds.getD j .none)) = []) ∧ ∃ y2 y3 y4 y5, σ = [some (vi n), some (.ref a), y2, y3, y4, y5]) (fun H2 e2 => ⟨e2, fun j hj => absurd hj (Nat.not_lt_zero _), none, none, none, none, rfl⟩) (fun i σ H' _ ⟨e, _⟩ => ex_t e hS) (fun i x σ H2 H3 hx ⟨e, good, y2, y3, y4, y5, hσ⟩ e3 => ?_) (fun σ H2 ⟨e2, good, y2, y3, y4, y5, hσ⟩ => ?_)
    · subst hσ
      obtain ⟨hi, x', ex', gd, dx⟩ := put_get r hx
      have e03 : Ex H H3 := e.trans e3
      obtain ⟨b, xs, cs, rfl, rfl, hT, rc⟩ := tup_of (dx.ex e03) (tups x' (List.mem_of_getElem? ex'))
      have hlc := rc.len
      show tFor _ _ _ _ [some (vi n), some (.ref a), some (vi i), some (.ref b), y4, y5] H3
      refine s_enumT (K := K) (ea_cons (ev_var rfl) ea_nil) hT (fun j σ H' => Ex H3 H' ∧ (∀ m, m < j → belowB (n : Int) (cs.getD m .none) = true) ∧ ∃ y4 y5, σ = [some (vi n), some (.ref a), some (vi i), some (.ref b), y4, y5]) (fun H4 e4 => ⟨e4, fun j hj => absurd hj (Nat.not_lt_zero _), _, _, rfl⟩) (fun j σ H' _ ⟨e, _⟩ => ex_t e hT) (fun j x σ H4 H5 hx4 ⟨e4, good4, z4, z5, hσ⟩ e5 => ?_) (fun σ H4 ⟨e4, good4, z4, z5, hσ⟩ => ?_)
      · subst hσ
        obtain ⟨hj, y', ey', gy, dy⟩ := put_get rc hx4
        have e35 := e4.trans e5
        show tIfS _ _ _ _ [some (vi n), some (.ref a), some (vi i), some (.ref b), some (vi j), some x] H5
        refine s_when (b := !belowB (n : Int) y') (et_not (et_val (ev_callV (v := .bl (belowB (n : Int) y')) ((p, c), y', (n : Int)) (ea_cons (ev_var rfl) (ea_cons (ev_var rfl) ea_nil)) (fun H6 e6 => ⟨_, rfl, dy.ex (e35.trans e6)⟩) (fun _ _ z => z)))) (fun hb2 H6 e6 => ?_) (fun hb2 H6 e6 => ⟨e35.trans e6, fun m hm => ?_, _, _, rfl⟩)
        · rw [Bool.not_eq_true'] at hb2
          refine s_retU (eu_tup (vs := [vi i, vi j]) (ea_cons (ev_var rfl) (ea_cons (ev_var rfl) ea_nil)) (by show 2 ≤ 100000; decide)) fun r2 H7 _ e7 hr7 => q _ H7 ((e03.trans (e35.trans e6)).trans e7) ?_
          obtain ⟨rr, hrr⟩ := oddRow_first hj good4 (by rw [gy]; exact hb2)
          have ow := oddT_first (n := n) (tds := tds) (k := i) (j := j) (r := rr) hi good (by rw [gd]; exact hrr)
          rw [oddD, ow]
          exact .tup (st_of hr7) (.cons (.int _) (.cons (.int _) .nil))
        · rw [Bool.not_eq_false'] at hb2
          by_cases z : m < j
          · exact good4 m z
          · rw [show m = j by omega, gy]
            exact hb2
      · subst hσ
        rw [hlc] at good4
        refine ⟨e03.trans e4, fun m hm => ?_, _, _, _, _, rfl⟩
        by_cases z : m < i
        · exact good m z
        · rw [show m = i by omega, gd]
          exact oddRow_none good4
    · subst hσ
      rw [hl] at good
      refine s_ret (v := .non) ev_c fun H3 e3 => q _ H3 (e2.trans e3) ?_
      rw [oddD, oddT_none good]
      exact .non
end
end K11
end
section
namespace K11
open PySem PySem.Spec PyProof.Rows L2 Evl RZ Dw M20
theorem nat_of {i : Int} (h : sizeB (.int i) = true) : ∃ m : Nat, i = (m : Int) ∧ 1 ≤ m ∧ m ≤ 6 := by
  rw [sizeB, Bool.and_eq_true, decide_eq_true_eq, decide_eq_true_eq] at h
  exact ⟨i.toNat, by omega, by omega, by omega⟩
section
variable {P : Program} {w : World} {K : PySem.W.Frag} {mg : Str → Option Value} {base : Heap} {σ : L2.St} {H H' Hb : Hp} {p c : Addr} {n m k W : Nat} {v : V} {d : PyData}
theorem ne_len {t : TE} {a : Addr} {xs : List V} {m : Nat} {u : TE} (h : Ev t σ H (.ref a)) (s : SqT K H a xs) (hu : Ev u σ H (vi m)) : EvT (tTest (tOp rNe (tCB (rLenS K) (tCons t tNil)) u)) σ H (!decide (xs.length = m)) := et_is (et_test (ev_op (ev_lenT h s) hu (rv_ne rfl))) (by
  show (!decide (V.int (xs.length : Int) = V.int (m : Int))) = _
  congr 1
  rw [decide_eq_decide]
  exact ⟨fun y => by injection y with y; omega, fun y => by rw [y]⟩)
theorem s_word {wd : Str} {D : Ends} (h : ∀ r H', Ex H H' → Dp K H' r (.tuple [.str wd]) → D.rt r H') : tRet (tTup (tCons (tC (.str wd)) tNil)) D σ H := s_retU (eu_tup (ea_cons ev_c ea_nil) (by show 1 ≤ 100000; decide)) fun r H2 _ e2 hr2 => h _ H2 e2 (.tup (st_of hr2) (.cons (.str _) .nil))
def MPre (K : PySem.W.Frag) (z : (Addr × Addr) × List (Str × Nat) × PyData) (vs : List V) (H : Hp) : Prop := (∃ u v, vs = [u, v] ∧ FSig K H u z.2.1 ∧ Dz K z.1.1 z.1.2 H v z.2.2) ∧ SigOk z.2.1
def sp_mod_any (K : PySem.W.Frag) : Sp := spX (MPre K) (fun z v H => Dp K H v (modW z.2.1 z.2.2))
theorem c_mod_any (T : Txt mg) (D : Df K mg "model_wrong" s_model_wrong ["signature", "thing"]) (c_need_signature : Cl P w K mg base 5 "need_signature" (sp_need_signature K)) (c_size_any : Cl P w K mg base 2 "is_size" (sp_size_any K)) (c_power : Cl P w K mg base 1 "power" sp_power) (c_odd_any : Cl P w K mg base 3 "first_odd_cell" (sp_odd_any K)) : Cl P w K mg base 6 "model_wrong" (sp_mod_any K) := by
  refine cl_of (k := 5) D sc_model_wrong (fun vs H Q E h => ?_) (fun f cdv A outer s H vs Q E hr h => ?_)
  · obtain ⟨z, ⟨⟨u, v, rfl, _⟩, _⟩, _⟩ := h
    rfl
  · obtain ⟨⟨⟨p, c⟩, sg, d⟩, ⟨⟨u, v, rfl, hF, hv⟩, sok⟩, q⟩ := h
    have c_is_size := c_size_any
    have c_first_odd_cell := c_odd_any
    refine ⟨_, (pss_cons (ps_expr (pe_cl c_need_signature hr (by first | decide | omega) (by rfl) (pa_cons (pv 0) pa_nil)))
      (pss_cons (ps_if (PW.pt (pw_or (pt_not (pt_val (pe_callB call_isi (by rfl) T.z_isinstance (by decide +kernel) (pa_cons (pv 1) (pa_cons (pe_ty "tuple" (by rfl) T.z_tuple (by decide +kernel)) pa_nil))))) (pw_or1 (pt_cmpR op_ne (pe_callB call_len_seq (by rfl) T.z_len PySem.boot_len (pa_cons (pv 1) pa_nil)) pe_int (nomark _)))))
        (pss_one (ps_ret (pe_tup (pa_cons pe_str pa_nil))))
        pss_nil)
      (pss_cons (ps_asg (pv 1) (pg_tup (by rfl) (pgs_cons (pg_name (i := 2) sc_model_wrong.nd rfl (.inl rfl)) (pgs_cons (pg_name (i := 3) sc_model_wrong.nd rfl (.inl rfl)) pgs_nil))))
      (pss_cons (ps_if (pt_not (pt_val (pe_cl c_is_size hr (by first | decide | omega) (by rfl) (pa_cons (pv 2) pa_nil))))
        (pss_one (ps_ret (pe_tup (pa_cons pe_str pa_nil))))
        pss_nil)
      (pss_cons (ps_if (PW.pt (pw_or (pt_not (pt_val (pe_callB call_isi (by rfl) T.z_isinstance (by decide +kernel) (pa_cons (pv 3) (pa_cons (pe_ty "tuple" (by rfl) T.z_tuple (by decide +kernel)) pa_nil))))) (pw_or1 (pt_cmpR op_ne (pe_callB call_len_seq (by rfl) T.z_len PySem.boot_len (pa_cons (pv 3) pa_nil)) (pe_callB call_len_seq (by rfl) T.z_len PySem.boot_len (pa_cons (pv 0) pa_nil)) (nomark _)))))
        (pss_one (ps_ret (pe_tup (pa_cons pe_str pa_nil))))
        pss_nil)
      (pss_cons (ps_for PassesOwn.never (by rfl) (pi_enumT (by rfl) T.z_enumerate (pa_cons (pv 0) pa_nil)) (pg_tup (by rfl) (pgs_cons (pg_name (i := 4) sc_model_wrong.nd rfl (.inl rfl)) (pgs_cons (pg_name (i := 5) sc_model_wrong.nd rfl (.inl rfl)) pgs_nil)))
        (pss_one (ps_if (PW.pt (pw_or (pt_not (pt_val (pe_callB call_isi (by rfl) T.z_isinstance (by decide +kernel) (pa_cons (pe_ix ix_tup (pv 3) (pv 4) (fun _ _ => rfl)) (pa_cons (pe_ty "tuple" (by rfl) T.z_tuple (by decide +kernel)) pa_nil))))) (pw_or1 (pt_cmpR op_ne (pe_callB call_len_seq (by rfl) T.z_len PySem.boot_len (pa_cons (pe_ix ix_tup (pv 3) (pv 4) (fun _ _ => rfl)) pa_nil)) (pe_cl c_power hr (by first | decide | omega) (by rfl) (pa_cons (pv 2) (pa_cons (pe_ix ix_tup (pv 5) pe_int (fun _ _ => rfl)) pa_nil))) (nomark _)))))
          (pss_one (ps_ret (pe_tup (pa_cons pe_str (pa_cons (pv 4) pa_nil)))))
          pss_nil)))
      (pss_cons (ps_set (i := 6) sc_model_wrong.nd rfl (.inl rfl) (pe_cl c_first_odd_cell hr (by first | decide | omega) (by rfl) (pa_cons (pv 2) (pa_cons (pv 3) pa_nil))))
      (pss_one (ps_ret (pe_ifExp (pt_cmpR op_isN (pv 6) pe_non (nomark _)) pe_non (pe_tup (pa_cons pe_str (pa_cons (pe_ix ix_tup (pv 6) pe_int (fun _ _ => rfl)) (pa_cons (pe_ix ix_tup (pv 6) pe_int (fun _ _ => rfl)) pa_nil)))))))))))))), ?_⟩
    replace hF : FSig K H u sg := hF
    replace hv : Dz K p c H v d := hv
    replace sok : SigOk sg := sok
    replace q : ∀ r H', Ex H H' → Dp K H' r (modW sg d) → Q r H' := q
    refine q_drop (ev_callV (v := .non) sg (ea_cons (ev_var rfl) ea_nil) (fun H1 e1 => ⟨⟨_, rfl, (hF.ex e1).sig⟩, sok⟩) (fun _ _ p => p)) fun H1 e1 => ?_
    by_cases hs2 : isTup d = false
    · exact q_when (b := true) (et_is (et_or (a := true) (b := false) (et_is (et_not (et_val (ev_isTup (K := K) (ev_var rfl) ev_c (hv.ex e1)))) (by rw [hs2]; rfl)) (fun z => by cases z)) rfl) (fun _ H2 e2 => s_word (K := K) fun r H3 e3 hr => q r H3 ((e1.trans e2).trans e3) (by
        have : modW sg d = .tuple [.str "model"] := by cases d <;> first | rfl | cases hs2
        rw [this]
        exact hr)) (fun hb => by cases hb)
    obtain ⟨b, xs, ds, rfl, rfl, hB, r⟩ := tup_of hv (by simpa using hs2)
    have lx := r.len
    refine q_when (b := !decide (xs.length = 2)) (et_is (et_or (a := false) (b := !decide (xs.length = 2)) (et_is (et_not (et_val (ev_isTup (K := K) (ev_var rfl) ev_c (hv.ex e1)))) rfl) (fun _ => ne_len (K := K) (m := 2) (ev_var rfl) (ex_t e1 hB) ev_c)) (by rw [Bool.false_or])) (fun hb H2 e2 => ?_) (fun hb H2 e2 => ?_)
    · have l2 : xs.length ≠ 2 := by simpa using hb
      refine s_word (K := K) fun r0 H3 e3 hr => q r0 H3 ((e1.trans e2).trans e3) ?_
      have : modW sg (.tuple ds) = .tuple [.str "model"] := by
        match ds, lx with
        | [], _ => rfl
        | [_], _ => rfl
        | [_, _], lx => exact absurd lx l2
        | _ :: _ :: _ :: _, _ => rfl
      rw [this]
      exact hr
    have l2 : xs.length = 2 := by simpa using hb
    obtain ⟨x1, x2, rfl⟩ := two_of l2
    obtain ⟨d1, d2, rfl⟩ := two_of (show ds.length = 2 by rw [← lx]; rfl)
    have e02 := e1.trans e2
    have y1 : Dz K p c H x1 d1 := by
      cases r with
      | cons x y => exact x
    have y2 : Dz K p c H x2 d2 := by
      cases r with
      | cons x y =>
        cases y with
        | cons x y => exact x
    refine do_setG (do_ev (ev_var rfl) fun H3 e3 => ⟨b, _, rfl, ex_t (e02.trans e3) hB, rfl, _, _, rfl, _, _, rfl, rfl, ?_⟩)
    have e03 := e02.trans e3
    show tSeq _ _ _ [some u, some (.ref b), some x1, some x2, none, none, none] H3
    refine q_when (b := !sizeB d1) (et_not (et_val (ev_callV (v := .bl (sizeB d1)) ((p, c), d1) (ea_cons (ev_var rfl) ea_nil) (fun H4 e4 => ⟨_, rfl, y1.ex (e03.trans e4)⟩) (fun _ _ z => z)))) (fun hbs H4 e4 => ?_) (fun hbs H4 e4 => ?_)
    · rw [Bool.not_eq_true'] at hbs
      refine s_word (K := K) fun r0 H5 e5 hr => q r0 H5 ((e03.trans e4).trans e5) ?_
      show Dp K H5 r0 (modW2 sg d1 d2)
      rw [modW2, if_neg (by rw [hbs]; decide)]
      exact hr
    rw [Bool.not_eq_false'] at hbs
    have e04 := e03.trans e4
    obtain ⟨i, rfl, rfl⟩ := whole_int y1 (by cases d1 <;> first | rfl | cases hbs)
    obtain ⟨m, rfl, m1, m6⟩ := nat_of hbs
    obtain ⟨sa, so1, ps, rfl, hsa, sod, prs⟩ := id hF
    have sqS : SqT K H sa (ps.map V.ref) := .inl (.inr ⟨so1, hsa⟩)
    have lps := paired_len prs
    show tSeq _ _ _ [some (.ref sa), some (.ref b), some (vi m), some x2, none, none, none] H4
    by_cases ht2 : isTup d2 = false
    · refine q_when (b := true) (et_is (et_or (a := true) (b := false) (et_is (et_not (et_val (ev_isTup (K := K) (ev_var rfl) ev_c (y2.ex e04)))) (by rw [ht2]; rfl)) (fun z => by cases z)) rfl) (fun _ H5 e5 => s_word (K := K) fun r0 H6 e6 hr => q r0 H6 ((e04.trans e5).trans e6) ?_) (fun hb => by cases hb)
      show Dp K H6 r0 (modW2 sg (.int (m : Int)) d2)
      rw [modW2, if_pos hbs]
      cases d2 <;> first | exact hr | cases ht2
    obtain ⟨ta, us, tds, rfl, rfl, hT, rT⟩ := tup_of y2 (by simpa using ht2)
    have lT := rT.len
    refine q_when (b := !decide (us.length = (ps.map V.ref).length)) (et_is (et_or (a := false) (b := !decide (us.length = (ps.map V.ref).length)) (et_is (et_not (et_val (ev_isTup (K := K) (ev_var rfl) ev_c (y2.ex e04)))) rfl) (fun _ => ne_len (K := K) (ev_var rfl) (ex_t e04 hT) (ev_lenT (ev_var rfl) (ex_t e04 sqS)))) (by rw [Bool.false_or])) (fun hb3 H5 e5 => ?_) (fun hb3 H5 e5 => ?_)
    · have l3 : ¬ tds.length = sg.length := by
        rw [Bool.not_eq_true', decide_eq_false_iff_not, List.length_map] at hb3
        omega
      refine s_word (K := K) fun r0 H6 e6 hr => q r0 H6 ((e04.trans e5).trans e6) ?_
      show Dp K H6 r0 (modW2 sg (.int (m : Int)) (.tuple tds))
      rw [modW2, if_pos hbs, modW3, if_neg l3]
      exact hr
    have l3 : tds.length = sg.length := by
      rw [Bool.not_eq_false', decide_eq_true_eq, List.length_map] at hb3
      omega
    have e05 := e04.trans e5
    have mw : modW sg (.tuple [.int (m : Int), .tuple tds]) = modW4 sg m tds := by
      show modW2 sg (.int (m : Int)) (.tuple tds) = _
      rw [modW2, if_pos hbs, modW3, if_pos l3]
      rfl
    refine q_enumT (K := K) (ea_cons (ev_var rfl) ea_nil) (ex_t e05 sqS) (fun i σ H' => Ex H H' ∧ (∀ j, j < i → tableB m (plOf sg j) (tds.getD j .none) = true) ∧ ∃ y4 y5, σ = [some (.ref sa), some (.ref b), some (vi m), some (.ref ta), y4, y5, none]) (fun H6 e6 => ⟨e05.trans e6, fun j hj => absurd hj (Nat.not_lt_zero _), none, none, rfl⟩) (fun i σ H' _ ⟨e, _⟩ => ex_t e sqS) (fun i x σ H6 H7 hx ⟨e, good, y4, y5, hσ⟩ e7 => ?_) (fun σ H6 ⟨e6, good, y4, y5, hσ⟩ => ?_)
    · subst hσ
      have ip : i < ps.length := by
        have := (List.getElem?_eq_some_iff.mp hx).1
        rw [List.length_map] at this
        exact this
      rw [List.getElem?_map, List.getElem?_eq_getElem ip] at hx
      cases Option.some.inj hx
      obtain ⟨dd, ed, hdd⟩ := paired_at prs (List.getElem?_eq_getElem ip)
      have memd : dd ∈ sg := List.mem_iff_getElem?.mpr ⟨i, ed⟩
      have pl2 : dd.2 ≤ 2 := sok.pl _ memd
      have gpl : plOf sg i = dd.2 := by
        rw [plOf, List.getD_eq_getElem?_getD, ed]
        rfl
      have e07 := e.trans e7
      have iu : i < us.length := by omega
      obtain ⟨hi, t', et', gd, dt⟩ := put_get rT (List.getElem?_eq_getElem iu)
      have tk : ∀ H8, Ex H7 H8 → Ev (tOp (rIxT K) (tVar 3) (tVar 4)) [some (.ref sa), some (.ref b), some (vi m), some (.ref ta), some (vi i), some (.ref ps[i]), none] H8 us[i] := fun H8 e8 => ev_op (ev_var rfl) (ev_var rfl) (rv_ixT (K := K) (ex_t (e07.trans e8) hT) (atI_nat (List.getElem?_eq_getElem iu)))
      show tIfS _ _ _ _ [some (.ref sa), some (.ref b), some (vi m), some (.ref ta), some (vi i), some (.ref ps[i]), none] H7
      have bad : ∀ {H8 : Hp}, Ex H7 H8 → tableB m (plOf sg i) (tds.getD i .none) = false → tRet (tTup (tCons (tC (.str "table")) (tCons (tVar 4) tNil))) { nx := fun _ H' => Q .non H', rt := Q } [some (.ref sa), some (.ref b), some (vi m), some (.ref ta), some (vi i), some (.ref ps[i]), none] H8 := fun {H8} e8 hbad => by
        refine s_retU (eu_tup (vs := [.str "table", vi i]) (ea_cons ev_c (ea_cons (ev_var rfl) ea_nil)) (by show 2 ≤ 100000; decide)) fun r2 H9 _ e9 hr9 => q _ H9 ((e07.trans e8).trans e9) ?_
        obtain ⟨rr, hrr⟩ : ∃ rr, badK sg m tds = i :: rr := filt_first (by omega) (fun j hj => by rw [good j hj]; rfl) (by rw [hbad]; rfl)
        rw [mw, modW4, hrr]
        exact .tup (st_of hr9) (.cons (.str _) (.cons (.int _) .nil))
      by_cases htt : isTup t' = false
      · exact s_when (b := true) (et_is (et_or (a := true) (b := false) (et_is (et_not (et_val (ev_isTup (K := K) (tk H7 (Ex.refl _)) ev_c (dt.ex e07)))) (by rw [htt]; rfl)) (fun z => by cases z)) rfl) (fun _ H8 e8 => bad e8 (by rw [gd]; cases t' <;> first | rfl | cases htt)) (fun hb => by cases hb)
      · obtain ⟨ca, cvs, cs, ecv, rfl, hC, rC⟩ := tup_of dt (by simpa using htt)
        have lc := rC.len
        have tk2 := tk H7 (Ex.refl _)
        rw [ecv] at tk2
        refine s_when (b := !decide (cvs.length = m ^ dd.2)) (et_is (et_or (a := false) (b := !decide (cvs.length = m ^ dd.2)) (et_is (et_not (et_val (ev_isTup (K := K) (tk H7 (Ex.refl _)) ev_c (dt.ex e07)))) rfl) (fun _ => ne_len (K := K) tk2 (ex_t e07 hC) (ev_callV (v := vi (m ^ dd.2)) (m, dd.2) (ea_cons (ev_var rfl) (ea_cons (ev_op (ev_var rfl) ev_c (rv_ixT (K := K) (ex_t e07 hdd) (atI_vi (k := 1) rfl))) ea_nil)) (fun _ _ => ⟨rfl, m6, Nat.le_trans pl2 (by decide)⟩) (fun _ _ p => p)))) (by rw [Bool.false_or])) (fun hb5 H8 e8 => bad e8 ?_) (fun hb5 H8 e8 => ⟨e07.trans e8, fun j hj => ?_, _, _, rfl⟩)
        · rw [Bool.not_eq_true', decide_eq_false_iff_not] at hb5
          rw [gd, gpl]
          show decide (cs.length = m ^ dd.2) = false
          rw [← lc]
          exact decide_eq_false hb5
        · rw [Bool.not_eq_false', decide_eq_true_eq] at hb5
          by_cases z : j < i
          · exact good j z
          · rw [show j = i by omega, gd, gpl]
            show decide (cs.length = m ^ dd.2) = true
            rw [← lc]
            exact decide_eq_true hb5
    · subst hσ
      rw [List.length_map] at good
      have nb : badK sg m tds = [] := filt_none (fun j hj => by rw [good j (by omega)]; rfl)
      have tups : ∀ t ∈ tds, isTup t = true := fun t ht => by
        obtain ⟨j, hj, e⟩ := List.mem_iff_getElem.mp ht
        have g := good j (by omega)
        have gj : tds.getD j .none = t := by
          rw [List.getD_eq_getElem?_getD, List.getElem?_eq_getElem hj, e]
          rfl
        rw [gj] at g
        cases t <;> first | rfl | cases g
      refine q_asgP (ep_call ((p, c), m, tds) (ea_cons (ev_var rfl) (ea_cons (ev_var rfl) ea_nil)) (fun H7 e7 => ⟨⟨ta, us, rfl, ex_t (e6.trans e7) hT, rT.ex (e6.trans e7)⟩, tups⟩)) fun ov H7 e7 hov => ?_
      replace hov : Dp K H7 ov (oddD m tds) := hov
      show tRet _ _ [some (.ref sa), some (.ref b), some (vi m), some (.ref ta), y4, y5, some ov] H7
      rw [mw, modW4, nb] at q
      cases ho : oddW m tds with
      | none =>
        rw [oddD, ho] at hov
        cases hov
        rw [ho] at q
        refine s_ret (ev_if (b := true) ?_ (fun _ => ev_c) (fun hb => by cases hb)) fun H8 e8 => q _ H8 ((e6.trans e7).trans e8) .non
        exact fun H7 e7 Q q => ⟨_, rfl, rfl, _, rfl, q H7 (Ex.refl H7)⟩
      | some kj =>
        obtain ⟨k0, j0⟩ := kj
        rw [oddD, ho] at hov
        rw [ho] at q
        cases hov with
        | tup sO rO =>
          cases rO with
          | cons a1 b1 =>
            cases a1
            cases b1 with
            | cons a2 b2 =>
              cases a2
              cases b2
              refine do_ret (do_if (b := false) (fun H8 e8 Q8 q8 => ⟨_, rfl, rfl, _, rfl, q8 H8 (Ex.refl H8)⟩) (fun hb => by cases hb) (fun _ H8 e8 => ?_))
              refine eu_tup (vs := [.str "cell", vi k0, vi j0]) (ea_cons ev_c (ea_cons (ev_op (ev_var rfl) ev_c (rv_ixT (K := K) (ex_t e8 sO) (atI_vi (k := 0) rfl))) (ea_cons (ev_op (ev_var rfl) ev_c (rv_ixT (K := K) (ex_t e8 sO) (atI_vi (k := 1) rfl))) ea_nil))) (by show 3 ≤ 100000; decide) H8 (Ex.refl _) _ fun r9 H9 _ e9 hr9 => q _ H9 ((e6.trans e7).trans (e8.trans e9)) (.tup (st_of hr9) (.cons (.str _) (.cons (.int _) (.cons (.int _) .nil))))
end
end K11
end
section
namespace K11
open PySem PySem.Spec PyProof.Rows L2 Evl RZ Dw M20
open C8 (fnScope_by)
section
variable {P : Program} {w : World} {K : PySem.W.Frag} {mg : Str → Option Value} {base : Heap} {σ : L2.St} {H H' : Hp} {p c : Addr} {n : Nat} {v : V} {d : PyData} {S0 G0 a1 a2 a3 a4 a5 a6 a7 a8 a9 : Addr}
/-- what is no model, ahead of anything -/
def MBad (K : PySem.W.Frag) (n : Nat) (z : (Addr × Addr) × List (Str × Nat) × PyData) (vs : List V) (H : Hp) : Prop := (∃ u v r, vs = u :: v :: r ∧ r.length = n ∧ FSig K H u z.2.1 ∧ Dz K z.1.1 z.1.2 H v z.2.2) ∧ SigOk z.2.1 ∧ modW z.2.1 z.2.2 ≠ .none
theorem mod_ref {v : V} {sg : List (Str × Nat)} {d : PyData} (h : Dp K H v (modW sg d)) (ne : modW sg d ≠ .none) : ∃ a, v = .ref a := by
  have e4 : ∀ n tds, modW4 sg n tds = .none ∨ ∃ ds, modW4 sg n tds = .tuple ds := fun n tds => by
    unfold modW4
    split
    · exact .inr ⟨_, rfl⟩
    · split
      · exact .inr ⟨_, rfl⟩
      · exact .inl rfl
  have e3 : ∀ s t, modW3 sg s t = .none ∨ ∃ ds, modW3 sg s t = .tuple ds := fun s t => by
    unfold modW3
    split
    · split
      · exact e4 _ _
      · exact .inr ⟨_, rfl⟩
    · exact .inr ⟨_, rfl⟩
  have e : modW sg d = .none ∨ ∃ ds, modW sg d = .tuple ds := by
    unfold modW
    split
    · unfold modW2
      split
      · exact e3 _ _
      · exact .inr ⟨_, rfl⟩
    · exact .inr ⟨_, rfl⟩
  rcases e with e | ⟨ds, e⟩
  · exact absurd e ne
  · rw [e] at h
    cases h with
    | tup s _ => exact ⟨_, rfl⟩
theorem c_need_modelM (T : Txt mg) (D : Df K mg "need_model" s_need_model ["signature", "model"]) (er : ExcT K mg "NoModel" S0) (c_mod_any : Cl P w K mg base 6 "model_wrong" (sp_mod_any K)) : ClX P w K mg base 7 "need_model" (spE S0 (MBad K 0)) := by
  refine clx_of (k := 6) D sc_need_model (fun vs H Q E h => ?_) (fun f cdv A outer s H vs Q E hr h => ?_)
  · obtain ⟨d, ⟨⟨u, v, r, rfl, l, _⟩, _⟩, _⟩ := h
    rw [List.eq_nil_of_length_eq_zero l]
    rfl
  · obtain ⟨⟨⟨p, c⟩, sg, d⟩, ⟨⟨u, v, r, rfl, l, hF, hv⟩, so, bad⟩, q⟩ := h
    rw [List.eq_nil_of_length_eq_zero l]
    have c_model_wrong := c_mod_any
    refine ⟨_, (pss_one (ps_if (pt_cmpR op_notN (pe_cl c_model_wrong hr (by first | decide | omega) (by rfl) (pa_cons (pv 0) (pa_cons (pv 1) pa_nil))) pe_non (nomark _))
        (pss_one (ps_raise rfl (takes_of rfl rfl rfl rfl) (pmk_own PySem.F.excBase_ValueError er.q er.g er.k (raises_own er.c.hs er.t) (by rfl))))
        pss_nil)), ?_⟩
    exact s_when (b := true) (et_isNP ((ep_call ((p, c), sg, d) (ea_cons (ev_var rfl) (ea_cons (ev_var rfl) ea_nil)) (fun H1 e1 => ⟨⟨_, _, rfl, hF.ex e1, hv.ex e1⟩, so⟩)).imp fun r H1 _ hr1 => mod_ref hr1 bad)) (fun _ H1 e1 => q H1 e1) (fun hb => by cases hb)
end
end K11
end
section
namespace K11
open PySem PySem.Spec PyProof.Rows L2 Evl RZ Dw M20
section
variable {P : Program} {w : World} {K : PySem.W.Frag} {mg : Str → Option Value} {base : Heap} {σ : L2.St} {H H' : Hp} {p c : Addr} {n : Nat} {v : V} {d : PyData} {S0 C0 : Addr}
theorem three_of {α : Type} {r : List α} (l : r.length = 3) : ∃ x y z, r = [x, y, z] := by
  match r, l with
  | [x, y, z], _ => exact ⟨x, y, z, rfl⟩
end
end K11
end
section
namespace K11
open PySem PySem.Spec PyProof.Rows L2 Evl RZ Dw M20
mutual
theorem bt_fits : ∀ (t : Tm) (p : List Nat), ∀ e ∈ t.bt.met p, e.2.fits = true
  | .var x, p, e, h => by
    rw [Tm.bt, Bt.met, List.mem_singleton] at h
    rw [h]
    rfl
  | .deed f ts, p, e, h => by
    rw [Tm.bt, Bt.met, List.mem_cons] at h
    rcases h with h | h
    · rw [h]
      rfl
    · exact bts_fits ts p 0 e h
theorem bts_fits : ∀ (ts : List Tm) (p : List Nat) (k : Nat), ∀ e ∈ mets (bts ts) p k, e.2.fits = true
  | [], p, k, e, h => by
    rw [bts, mets] at h
    cases h
  | t :: ts, p, k, e, h => by
    rw [bts, mets, List.mem_append] at h
    rcases h with h | h
    · exact bt_fits t _ e h
    · exact bts_fits ts p (k + 1) e h
end
theorem bt_right {t : Tm} (h : t.bt.sz ≤ 60) : wrongL (t.bt.met []) = .none := by
  have f : (t.bt.met []).find? (fun e => !e.2.fits) = none := List.find?_eq_none.mpr (fun x hx => by rw [bt_fits t [] x hx]; decide)
  rw [wrongL, f]
  show (if 60 < (t.bt.met []).length then PyData.tuple [.str "parts"] else .none) = .none
  rw [if_neg (by rw [met_len]; omega)]
def oddTW : PyData := .tuple [.str "term", .tuple []]
theorem odd_w (d : PyData) : wrongL ((Bt.odd d).met []) = oddTW := by
  rw [Bt.met, show [(([] : List Nat), Bt.odd d)] = [] ++ ([], Bt.odd d) :: [] from rfl, wrongL_odd (fun x hx => by cases hx) rfl]
  rfl
/-! sides: a term, or what is none at its own place -/
inductive Sd where
  | tm (t : Tm)
  | odd (d : PyData)
def Sd.bt : Sd → Bt
  | .tm t => t.bt
  | .odd d => .odd d
def Sd.data : Sd → PyData
  | .tm t => t.data
  | .odd d => d
def Sd.ok (sg : List (Str × Nat)) : Sd → Prop
  | .tm t => t.ok sg ∧ t.sz ≤ 13
  | .odd _ => True
def Sd.w : Sd → PyData
  | .tm _ => .none
  | .odd _ => oddTW
inductive Eb where
  | two (x y : Sd)
  | no (d : PyData)
def Eb.ok (sg : List (Str × Nat)) : Eb → Prop
  | .two x y => x.ok sg ∧ y.ok sg
  | .no _ => True
def Eb.data : Eb → PyData
  | .two x y => .tuple [x.data, y.data]
  | .no d => d
def lettersN (a b : Tm) : Nat := (inner (Eqn.tm ⟨a, b⟩)).length
def sideW (a b : Tm) : PyData := if 12 < a.sz then .tuple [.str "side", .int 0] else if 12 < b.sz then .tuple [.str "side", .int 1] else if 4 < lettersN a b then .tuple [.str "letters"] else .none
def Eb.w : Eb → PyData
  | .two (.odd _) _ => .tuple [.str "left", oddTW]
  | .two (.tm _) (.odd _) => .tuple [.str "right", oddTW]
  | .two (.tm a) (.tm b) => sideW a b
  | .no _ => .tuple [.str "equation"]
section
variable {P : Program} {w : World} {K : PySem.W.Frag} {mg : Str → Option Value} {base : Heap} {σ : L2.St} {H H' : Hp} {p c : Addr} {n : Nat} {v : V} {d : PyData} {sg : List (Str × Nat)}
def SdV (K : PySem.W.Frag) (H : Hp) (sg : List (Str × Nat)) : Sd → V → Prop
  | .tm t, v => TmV K H t v
  | .odd d, v => BtV K H sg (.odd d) v
theorem TmV.ex {t : Tm} (e : Ex H H') (h : TmV K H t v) : TmV K H' t v := h.et (Dw.Ex.et e)
theorem SdV.ex (e : Ex H H') : ∀ {s : Sd} {v : V}, SdV K H sg s v → SdV K H' sg s v
  | .tm _, _, h => TmV.ex e h
  | .odd _, _, h => BtV.ex e h
theorem SdV.bt : ∀ {s : Sd} {v : V}, SdV K H sg s v → s.ok sg → BtV K H sg s.bt v ∧ s.bt.ok sg ∧ s.bt.sz ≤ 100 ∧ wrongL (s.bt.met []) = s.w
  | .tm t, v, h, ok => by
    obtain ⟨a, b, _, z⟩ := bt_all t h ok.1
    have l : t.sz ≤ 13 := ok.2
    exact ⟨a, b, by show t.bt.sz ≤ 100; omega, bt_right (by omega)⟩
  | .odd d, v, h, _ => ⟨h, by show Bt.ok sg (.odd d); rw [Bt.ok]; trivial, by show (Bt.odd d).sz ≤ 100; rw [Bt.sz]; decide, odd_w d⟩
theorem SdV.dp : ∀ {s : Sd} {v : V}, SdV K H sg s v → Dp K H v s.data
  | .tm _, _, h => TmV.dp h
  | .odd d, v, h => by
    have h2 : BtV K H sg (.odd d) v := h
    rw [BtV] at h2
    exact h2.1.dp
/-! equations, or what is none -/
inductive NoPair (K : PySem.W.Frag) (H : Hp) : V → Prop where
  | non : NoPair K H .non
  | str (z : Str) : NoPair K H (.str z)
  | int (i : Int) : NoPair K H (.int i)
  | lst {a : Addr} {xs : List V} (h : H a = some (.lst xs)) : NoPair K H (.ref a)
  | len {a : Addr} {xs : List V} (h : SqT K H a xs) (l : xs.length ≠ 2) : NoPair K H (.ref a)
theorem NoPair.ex (e : Ex H H') (h : NoPair K H v) : NoPair K H' v := by
  cases h with
  | non => exact .non
  | str z => exact .str z
  | int i => exact .int i
  | lst h => exact .lst (e _ _ h)
  | len h l => exact .len (ex_t e h) l
def EbV (K : PySem.W.Frag) (H : Hp) (sg : List (Str × Nat)) : Eb → V → Prop
  | .two x y, v => ∃ a u w, v = .ref a ∧ SqT K H a [u, w] ∧ SdV K H sg x u ∧ SdV K H sg y w
  | .no d, v => NoPair K H v ∧ Dp K H v d
theorem EbV.ex (e : Ex H H') : ∀ {b : Eb} {v : V}, EbV K H sg b v → EbV K H' sg b v
  | .two _ _, _, ⟨a, u, w, q, s, x, y⟩ => ⟨a, u, w, q, ex_t e s, x.ex e, y.ex e⟩
  | .no _, _, ⟨a, b⟩ => ⟨a.ex e, dp_ex e b⟩
theorem EbV.dp : ∀ {b : Eb} {v : V}, EbV K H sg b v → Dp K H v b.data
  | .two _ _, _, ⟨a, u, w, q, s, x, y⟩ => by
    subst q
    exact .tup s (.cons x.dp (.cons y.dp .nil))
  | .no _, _, ⟨_, b⟩ => b
end
end K11
end
section
namespace K11
open PySem PySem.Spec PyProof.Rows L2 Evl RZ Dw M20
section
variable {P : Program} {w : World} {K : PySem.W.Frag} {mg : Str → Option Value} {base : Heap} {σ : L2.St} {H H' : Hp} {sg : List (Str × Nat)} {v : V} {p c : Addr} {t n m k W : Nat} {E1 N1 T1 : Addr}
def EbPre (K : PySem.W.Frag) (z : List (Str × Nat) × Eb) (vs : List V) (H : Hp) : Prop := (∃ u v, vs = [u, v] ∧ FSig K H u z.1 ∧ EbV K H z.1 z.2 v) ∧ SigOk z.1 ∧ z.2.ok z.1 ∧ z.2.w ≠ .none
theorem EbPre.ex {z : List (Str × Nat) × Eb} {vs : List V} (e : Ex H H') (h : EbPre K z vs H) : EbPre K z vs H' := let ⟨⟨u, v, q, a, b⟩, r⟩ := h; ⟨⟨u, v, q, a.ex e, b.ex e⟩, r⟩
/-- a good model, and what is no equation -/
def EqPre (K : PySem.W.Frag) (z : (List (Str × Nat) × Eb) × Nat × List (List Nat)) (vs : List V) (H : Hp) : Prop := (∃ u m v, vs = [u, m, v] ∧ Mdl K H m z.2.1 z.2.2 ∧ EbPre K z.1 [u, v] H) ∧ MdlOk z.1.1 z.2.1 z.2.2
theorem EqPre.ex {z : (List (Str × Nat) × Eb) × Nat × List (List Nat)} {vs : List V} (e : Ex H H') (h : EqPre K z vs H) : EqPre K z vs H' := let ⟨⟨u, m, v, q, a, b⟩, r⟩ := h; ⟨⟨u, m, v, q, a.ex e, b.ex e⟩, r⟩
theorem w_ref {wv : V} {x : PyData} (h : Dp K H wv x) (ne : x ≠ .none) (t : x = .none ∨ ∃ ds, x = .tuple ds) : ∃ r, wv = .ref r := by
  rcases t with t | ⟨ds, rfl⟩
  · exact absurd t ne
  · cases h with
    | tup _ _ => exact ⟨_, rfl⟩
theorem wrongL_tup (a : List (List Nat × Bt)) : wrongL a = .none ∨ ∃ ds, wrongL a = .tuple ds := by
  unfold wrongL
  repeat' split
  all_goals first | exact .inl rfl | exact .inr ⟨_, rfl⟩
/-- what is no term -/
def TmPre (K : PySem.W.Frag) (z : List (Str × Nat) × Bt) (vs : List V) (H : Hp) : Prop := BPre K z vs H ∧ wrongL (z.2.met []) ≠ .none
theorem TmPre.ex {z : List (Str × Nat) × Bt} {vs : List V} (e : Ex H H') (h : TmPre K z vs H) : TmPre K z vs H' := let ⟨⟨⟨u, v, q, a, b⟩, r⟩, s⟩ := h; ⟨⟨⟨u, v, q, a.ex e, b.ex e⟩, r⟩, s⟩
theorem c_need_termB (T : Txt mg) (D : Df K mg "need_term" s_need_term ["signature", "term"]) (et : ExcT K mg "NoTerm" T1) (c_term_any : Cl P w K mg base 6 "term_wrong" (sp_term_any K)) : ClX P w K mg base 7 "need_term" (spE T1 (TmPre K)) := by
  refine clx_of (k := 6) D sc_need_term (fun vs H Q E h => ?_) (fun f cdv A outer s H vs Q E hr h => ?_)
  · obtain ⟨_, ⟨⟨⟨u, v, rfl, _⟩, _⟩, _⟩, _⟩ := h
    rfl
  · obtain ⟨z, ⟨⟨⟨u, v, rfl, hF, hb⟩, r⟩, bad⟩, q⟩ := h
    have c_term_wrong := c_term_any
    refine ⟨_, (pss_one (ps_if (pt_cmpR op_notN (pe_cl c_term_wrong hr (by first | decide | omega) (by rfl) (pa_cons (pv 0) (pa_cons (pv 1) pa_nil))) pe_non (nomark _))
        (pss_one (ps_raise rfl (takes_of rfl rfl rfl rfl) (pmk_own PySem.F.excBase_ValueError et.q et.g et.k (raises_own et.c.hs et.t) (by rfl))))
        pss_nil)), ?_⟩
    exact s_when (b := true) (et_isNP ((ep_call z (ea_cons (ev_var rfl) (ea_cons (ev_var rfl) ea_nil)) (fun H1 e1 => ⟨⟨_, _, rfl, hF.ex e1, hb.ex e1⟩, r⟩)).imp fun r H1 _ y => w_ref (show Dp K H1 r (wrongL (z.2.met [])) from y) bad (wrongL_tup _))) (fun _ H1 e1 => q H1 e1) (fun hb => by cases hb)
/-- a good model, and what is no term -/
def TqPre (K : PySem.W.Frag) (z : (List (Str × Nat) × Bt) × Nat × List (List Nat)) (vs : List V) (H : Hp) : Prop := (∃ u m v x, vs = [u, m, v, x] ∧ Mdl K H m z.2.1 z.2.2 ∧ TmPre K z.1 [u, v] H) ∧ MdlOk z.1.1 z.2.1 z.2.2
theorem TqPre.ex {z : (List (Str × Nat) × Bt) × Nat × List (List Nat)} {vs : List V} (e : Ex H H') (h : TqPre K z vs H) : TqPre K z vs H' := let ⟨⟨u, m, v, x, q, a, b⟩, r⟩ := h; ⟨⟨u, m, v, x, q, a.ex e, b.ex e⟩, r⟩
end
end K11
end
section
namespace K11
open PySem PySem.Spec PyProof.Rows L2 Evl RZ Dw M20
theorem dk2_ne (w : Str) (k : Nat) : dK2 w k ≠ .none := fun z => by cases z
theorem sig_non : sigW .none ≠ .none := fun z => by cases z
theorem sig_lst (ds : List PyData) : sigW (.list ds) ≠ .none := fun z => by cases z
theorem sig_len {ds : List PyData} (h : ¬ (1 ≤ ds.length ∧ ds.length ≤ 4)) : sigW (.tuple ds) ≠ .none := by
  rw [sigW, if_neg h]
  exact fun z => by cases z
theorem sig_odd {d : PyData} (h : deedB d = false) : sigW (.tuple [d]) ≠ .none := by
  rw [sigW]
  split
  · split
    · exact dk2_ne _ _
    · rename_i e
      have := List.filter_eq_nil_iff.mp e 0 (List.mem_range.mpr (Nat.zero_lt_one))
      rw [show ([d] : List PyData).getD 0 .none = d from rfl, h] at this
      exact absurd rfl this
  · exact fun z => by cases z
theorem sig_a3 : sigW (.tuple [.tuple [.str "a", .int 3]]) ≠ .none := sig_odd (by
  show (nameB (.str "a") && belowB 3 (.int 3)) = false
  rw [show belowB 3 (.int 3) = false by decide, Bool.and_false])
mutual
theorem noL_tm : ∀ t : Tm, noL t.data = true
  | .var x => by
    rw [Tm.data]
    rfl
  | .deed f ts => by
    rw [Tm.data]
    show noLs [.str "deed", .str f, .tuple (datas ts)] = true
    show (true && (true && (noLs (datas ts) && true))) = true
    rw [noLs_tm ts]
    rfl
theorem noLs_tm : ∀ ts : List Tm, noLs (datas ts) = true
  | [] => by
    rw [datas]
    rfl
  | t :: ts => by
    rw [datas]
    show (noL t.data && noLs (datas ts)) = true
    rw [noL_tm t, noLs_tm ts]
    rfl
end
theorem gb_dig {i : Nat} (h : i ≤ 7) : Gb 0 10 (.int (i : Int)) := by
  have : i = 0 ∨ i = 1 ∨ i = 2 ∨ i = 3 ∨ i = 4 ∨ i = 5 ∨ i = 6 ∨ i = 7 := by omega
  rcases this with rfl | rfl | rfl | rfl | rfl | rfl | rfl | rfl <;> exact ⟨by rw [PyData.canLay0], by rw [PyData.depth]; decide, by rw [PyData.weight]; decide, by rw [PyData.intsShort]; decide, by rw [PyData.showable]; decide⟩
theorem gba_all {k W : Nat} : ∀ {ds : List PyData}, (∀ d ∈ ds, Gb k W d) → GbA k (ds.length * (W + 1)) ds
  | [], _ => gba_nil.mono (Nat.zero_le _) (Nat.zero_le _)
  | d :: ds, h => (gba_cons (h d (List.mem_cons_self ..)) (gba_all fun e he => h e (List.mem_cons_of_mem _ he))).mono (Nat.le_refl _) (by rw [List.length_cons, Nat.succ_mul]; omega)
def marks : List Str := ["good", "signature", "kind", "model", "term", "equation", "worths", "letters"]
theorem marks_ok : ∀ z ∈ marks, (∀ c ∈ z.cps.toList, c < 0x110000) ∧ z.cps.size ≤ 100 := by decide +kernel
section
variable {P : Program} {w : World} {K : PySem.W.Frag} {mg : Str → Option Value} {base : Heap} {σ : L2.St} {H H' Hb : Hp} {C : Nat → Addr} {G0 : Addr} {sg : List (Str × Nat)} {v : V} {p c : Addr} {t n m k W : Nat} {R : V → Hp → Prop} {te : TE} {ta : TA}
theorem rv_neX {x y : V} (h : scal x y = true) (e : x = y) : RV rNe x y H (.bl false) := by
  subst e
  have z := rv_ne (H := H) h
  rw [show (!decide (x = x)) = false by simp] at z
  exact z
theorem el_dp {zs : List Str} (h : EvL te σ H (zs.map V.str)) : EvP te σ H fun v H' => Dp K H' v (.list (zs.map PyData.str)) := fun H1 e Q q => h H1 e _ fun p H2 np e2 h2 => q _ H2 e2 (.lst (sq_of h2) (dps_strs zs))
theorem lay_ws {zs : List Str} (h : zs.length ≤ 6) (o : ∀ z ∈ zs, (∀ c ∈ z.cps.toList, c < 0x110000) ∧ z.cps.size ≤ 100) : Lay (.list (zs.map PyData.str)) := Gd.layd (gd_lst (k := 0) (W := 100) (L := 6) (fun d hd => by
  obtain ⟨z, hz, e⟩ := List.mem_map.mp hd
  rw [← e]
  exact gd_str (o z hz).1 (o z hz).2) (by rw [List.length_map]; exact h)) (by decide)
theorem et_mark {ta tb : TE} {z : Str} (m : z ∈ marks) (ha : EvL ta σ H [.str z]) (hb : EvL tb σ H [.str z]) : EvT (tTest (tOp (rNeL K) ta tb)) σ H false := et_same (d := .list ([z].map PyData.str)) (el_dp (zs := [z]) ha) (el_dp (zs := [z]) hb) (lay_ws (by show 1 ≤ 6; decide) fun y hy => by
  rw [List.mem_singleton.mp hy]
  exact marks_ok z m)
/-- [mark] != [mark] of one call -/
theorem et_one {ta te : TE} {z : Str} (m : z ∈ marks) (ha : EvL ta σ H [.str z]) (he : te = tLst (tCons (tC (.str z)) tNil)) : EvT (tTest (tOp (rNeL K) ta te)) σ H false := by
  subst he
  exact et_mark m ha (el_lst (vs := [.str z]) (ea_cons ev_c ea_nil) (by show 1 ≤ 100000; decide))
def EvAs (R : V → Hp → Prop) (n : Nat) (ta : TA) (σ : L2.St) (H : Hp) : Prop := ∀ H1, Ex H H1 → ∀ Q : List V → Hp → Prop, (∀ vs H2, Ex H1 H2 → vs.length = n → (∀ x ∈ vs, R x H2) → Q vs H2) → ta σ H1 Q
theorem eas_nil : EvAs R 0 tNil σ H := fun H1 _ Q q => q [] H1 (Ex.refl _) rfl (fun x hx => by cases hx)
theorem eas_cons (st : ∀ v H H', Ex H H' → R v H → R v H') (h : EvP te σ H R) (hr : EvAs R n ta σ H) : EvAs R (n + 1) (tCons te ta) σ H := fun H1 e Q q => do_cons (h H1 e _ fun v H2 e2 hv => hr H2 (e.trans e2) _ fun vs H3 e3 ln hvs => q _ H3 (e2.trans e3) (by rw [List.length_cons, ln]) (fun x hx => by
  rcases List.mem_cons.mp hx with z | z
  · rw [z]
    exact st _ _ _ e3 hv
  · exact hvs x z))
def LsR (R : V → Hp → Prop) (p c : Addr) (n : Nat) (v : V) (H : Hp) : Prop := ∃ (l : Addr) (xs : List V), v = .ref l ∧ H l = some (.lst xs) ∧ l ≠ p ∧ l ≠ c ∧ xs.length = n ∧ ∀ x ∈ xs, R x H
theorem LsR.ex (st : ∀ v H H', Ex H H' → R v H → R v H') (e : Ex H H') (h : LsR R p c n v H) : LsR R p c n v H' := let ⟨l, xs, q, hx, a, b, ln, all⟩ := h; ⟨l, xs, q, e _ _ hx, a, b, ln, fun x hx => st _ _ _ e (all x hx)⟩
theorem ep_lstR (st : ∀ v H H', Ex H H' → R v H → R v H') (h : EvAs R n ta σ H) (l : n ≤ 1000) (pu : Pur H p c m) : EvP (tLst ta) σ H (LsR R p c n) := fun H1 e Q q => do_lst (h H1 e _ fun vs H2 e2 ln hv => ⟨sz_of (by omega), fun a na => by
  obtain ⟨ap, ac⟩ := (pu.ex (e.trans e2)).fresh na
  exact q _ _ (e2.trans (Ex.new na)) ⟨a, vs, rfl, upd_same, ap, ac, ln, fun x hx => st _ _ _ (Ex.new na) (hv x hx)⟩⟩)
/-- the one list behind the other -/
theorem ep_catR {t1 t2 : TE} {n1 n2 : Nat} (st : ∀ v H H', Ex H H' → R v H → R v H') (h1 : EvP t1 σ H (LsR R p c n1)) (h2 : EvP t2 σ H (LsR R p c n2)) (l : n1 + n2 ≤ 1000) (pu : Pur H p c m) : EvP (tOp rCat t1 t2) σ H (LsR R p c (n1 + n2)) := fun H1 e Q q => do_op (h1 H1 e _ fun v H2 e2 hv => h2 H2 (e.trans e2) _ fun u H3 e3 hu => by
  obtain ⟨l1, xs, rfl, hx, _, _, ln, all⟩ := LsR.ex st e3 hv
  obtain ⟨l2, ys, rfl, hy, _, _, ln2, all2⟩ := hu
  refine ⟨l1, l2, xs, ys, rfl, rfl, hx, hy, sz_of (by omega), fun r nr => ?_⟩
  obtain ⟨ap, ac⟩ := (pu.ex ((e.trans e2).trans e3)).fresh nr
  refine q _ _ ((e2.trans e3).trans (Ex.new nr)) ⟨r, xs ++ ys, rfl, upd_same, ap, ac, by rw [List.length_append, ln, ln2], fun x hx => ?_⟩
  rcases List.mem_append.mp hx with z | z
  · exact st _ _ _ (Ex.new nr) (all x z)
  · exact st _ _ _ (Ex.new nr) (all2 x z))
theorem gb_t0 : Gb 2 100 (.tuple []) := (gb_tup gba_nil).mono (by decide) (by decide)
mutual
theorem bt_data : ∀ t : Tm, t.bt.data = t.data
  | .var x => by rw [Tm.bt, Bt.data, Tm.data]
  | .deed f ts => by rw [Tm.bt, Bt.data, Tm.data, bts_data ts]
theorem bts_data : ∀ ts : List Tm, bdatas (bts ts) = datas ts
  | [] => by rw [bts, bdatas, datas]
  | t :: ts => by rw [bts, bdatas, datas, bt_data t, bts_data ts]
end
theorem gb_sml {y : Tm} (so : SigOk sg) (tv : TmV K H y v) (ok : y.ok sg) (l : y.sz ≤ 7) : Gb 17 769 y.data := by
  obtain ⟨_, o, f, z⟩ := bt_all y tv ok
  have g := gd_bt so y.bt o f
  rw [bt_data] at g
  exact (K11.Gd.gb g).mono (by omega) (by omega)
def GoneR (K : PySem.W.Frag) (p c : Addr) (v : V) (H : Hp) : Prop := ∃ d, Dz K p c H v d ∧ Gb 6 6000 d ∧ sigW d ≠ .none
theorem GoneR.st : ∀ v H H', Ex H H' → GoneR K p c v H → GoneR K p c v H' := fun _ _ _ e ⟨d, a, r⟩ => ⟨d, a.ex e, r⟩
theorem ep_gone0 : EvP (tTup tNil) σ H (GoneR K p c) := fun H1 e Q q => eu_tup (vs := []) ea_nil (by show 0 ≤ 100000; decide) H1 e _ fun a H2 na e2 ha => q _ H2 e2 ⟨.tuple [], .tup (st_of ha) .nil, gb_t0.mono (by decide) (by decide), sig_len (by decide)⟩
theorem ep_gone1 {z : Str} {i : Int} (h : (∀ c ∈ z.cps.toList, c < 0x110000) ∧ z.cps.size ≤ 22) (hi : (PyData.int i).weight ≤ 100 ∧ (PyData.int i).intsShort 40 = true ∧ (PyData.int i).showable = true) (hs : sigW (.tuple [.tuple [.str z, .int i]]) ≠ .none) : EvP (tTup (tCons (tTup (tCons (tC (.str z)) (tCons (tC (.int i)) tNil))) tNil)) σ H (GoneR K p c) := fun H1 e Q q => do_tup (do_cons (eu_tup (vs := [.str z, .int i]) (ea_cons ev_c (ea_cons ev_c ea_nil)) (by show 2 ≤ 100000; decide) H1 e _ fun b H2 nb e2 hb => do_nil ⟨by show 1 ≤ sizeLine; decide, fun a na => q _ _ (e2.trans (Ex.new na)) ⟨.tuple [.tuple [.str z, .int i]], .tup (st_of upd_same) (.cons (.tup (ex_t (Ex.new na) (st_of hb)) (.cons (.str _) (.cons (.int _) .nil))) .nil), (gb_tup (gba_one (gb_tup (gba_cons (gb_s h) (gba_one (gb_i hi)))))).mono (by decide) (by decide), hs⟩⟩))
theorem GoneR.off (pu : Pur H p c m) (o : Off H H' p c) (h : GoneR K p c v H) : GoneR K p c v H' := let ⟨d, z, r⟩ := h; ⟨d, z.off pu o, r⟩
/-! new lists of new lists -/
end
end K11
end
section
namespace K11
open PySem PySem.Spec PyProof.Rows L2 Evl RZ Dw M20
section
variable {P : Program} {w : World} {K : PySem.W.Frag} {mg : Str → Option Value} {base : Heap} {σ : L2.St} {H H' Hb : Hp} {C : Nat → Addr} {G0 : Addr} {sg : List (Str × Nat)} {v : V} {p c : Addr} {t n m k W : Nat} {R : V → Hp → Prop} {te : TE} {ta : TA}
/-! what is no model -/
def MbR (K : PySem.W.Frag) (p c : Addr) (sg : List (Str × Nat)) (v : V) (H : Hp) : Prop := ∃ d, Dz K p c H v d ∧ Gb 9 14000 d ∧ modW sg d ≠ .none
theorem MbR.st : ∀ v H H', Ex H H' → MbR K p c sg v H → MbR K p c sg v H' := fun _ _ _ e ⟨d, a, r⟩ => ⟨d, a.ex e, r⟩
theorem MbR.off (pu : Pur H p c m) (o : Off H H' p c) (h : MbR K p c sg v H) : MbR K p c sg v H' := let ⟨d, z, r⟩ := h; ⟨d, z.off pu o, r⟩
/-! what is no term and no equation -/
def EbX (K : PySem.W.Frag) (sg : List (Str × Nat)) (v : V) (H : Hp) : Prop := ∃ e : Eb, e.ok sg ∧ e.w ≠ .none ∧ EbV K H sg e v
theorem EbX.st : ∀ v H H', Ex H H' → EbX K sg v H → EbX K sg v H' := fun _ _ _ e ⟨b, x, y, z⟩ => ⟨b, x, y, z.ex e⟩
def NoR (K : PySem.W.Frag) (p c : Addr) (sg : List (Str × Nat)) (v : V) (H : Hp) : Prop := ∃ d, Gb 33 3000 d ∧ ∀ H', Off H H' p c → (Dq K H' v d ∧ NF K H' sg v) ∧ EbX K sg v H'
theorem NoR.off (o : Off H H' p c) (h : NoR K p c sg v H) : NoR K p c sg v H' := let ⟨d, g, r⟩ := h; ⟨d, g, fun H2 o2 => r H2 (o.trans o2)⟩
theorem NoR.st : ∀ v H H', Ex H H' → NoR K p c sg v H → NoR K p c sg v H' := fun _ _ _ e h => h.off (Off.of_ex e)
theorem far_tm {y : Tm} {u : V} {r : List V} (h : TmV K H y u) : FarL H (u :: r) := fun i q z => by
  cases y with
  | var x =>
    rw [TmV] at h
    obtain ⟨a, rfl, _⟩ := h
    cases z
  | deed f ts =>
    rw [TmV] at h
    obtain ⟨a, _, _, rfl, _⟩ := h
    cases z
/-! equations that are none -/
/-! kinds that are none -/
end
end K11
end
section
namespace K11
open PySem PySem.Spec PyProof.Rows L2 Evl RZ Dw M20
section
variable {P : Program} {w : World} {K : PySem.W.Frag} {mg : Str → Option Value} {base : Heap} {σ : L2.St} {H H' : Hp} {p c : Addr} {n m k t : Nat} {v : V} {te : TE}
theorem ev_intB {te : TE} {b : Bool} (h : Ev te σ H (.bl b)) : Ev (tCB (fun xs H Q => (∃ i, xs = [.int i] ∧ Q (.int i) H) ∨ ∃ k, xs = [.bl k] ∧ Q (.int (if k then 1 else 0)) H) (tCons te tNil)) σ H (.int (if b then 1 else 0)) := ev_cb (ea_cons h ea_nil) (fun H3 e3 Q q => .inr ⟨b, rfl, q H3 (Ex.refl _)⟩)
def sp_mixed : Sp := spX (fun (z : Int × Nat) vs H => vs = [.int z.1, vi z.2] ∧ 0 ≤ z.1 ∧ z.1 < 2147483629 ∧ z.2 ≤ 200000) (fun _ v _ => ∃ x : Int, v = .int x)
theorem c_mixed (T : Txt mg) (D : Df K mg "_law_mixed" s__law_mixed ["_law_cell", "_law_k"]) : Cl P w K mg base 1 "_law_mixed" sp_mixed := by
  refine cl_of (k := 0) D sc__law_mixed (fun vs H Q E h => ?_) (fun f cdv A outer s H vs Q E hr h => ?_)
  · obtain ⟨z, ⟨rfl, _⟩, _⟩ := h
    rfl
  · obtain ⟨⟨x, k⟩, ⟨rfl, x0, x1, k1⟩, q⟩ := h
    refine ⟨_, (pss_cons (ps_set (i := 2) sc__law_mixed.nd rfl (.inl rfl) (pe_op op_mod (pe_op op_add (pe_op op_add (pe_op op_mul (pv 0) pe_int) (pe_op op_mul (pv 1) pe_int)) pe_int) pe_int))
      (pss_cons (ps_set (i := 2) sc__law_mixed.nd rfl (.inl rfl) (pe_op op_mod (pe_op op_mul (pv 2) (pv 2)) pe_int))
      (pss_one (ps_ret (pe_op op_fdiv (pe_op op_mod (pe_op op_mul (pv 2) (pv 2)) pe_int) pe_int))))), ?_⟩
    replace x0 : 0 ≤ x := x0
    replace x1 : x < 2147483629 := x1
    replace k1 : k ≤ 200000 := k1
    have small : ∀ x m : Int, 0 < m → m < 2 ^ 40 → CMul (x % m) (x % m) := fun x m h1 h2 => .inl ⟨by have := Int.emod_nonneg x (show m ≠ 0 by omega); omega, by have := Int.emod_lt_of_pos x h1; omega⟩
    refine q_asg (ev_op (ev_op (ev_op (ev_op (ev_var rfl) ev_c (rv_I (.inr ⟨by decide, by decide⟩))) (ev_op (ev_var rfl) ev_c (rv_I (.inr ⟨by decide, by decide⟩))) rv_I0) ev_c rv_I0) ev_c (rv_I (by decide))) fun H1 e1 => ?_
    refine q_asg (ev_op (ev_op (ev_var rfl) (ev_var rfl) (rv_I (small _ _ (by decide) (by decide)))) ev_c (rv_I (by decide))) fun H2 e2 => ?_
    exact s_ret (ev_op (ev_op (ev_op (ev_var rfl) (ev_var rfl) (rv_I (small _ _ (by decide) (by decide)))) ev_c (rv_I (by decide))) ev_c (rv_I ⟨by decide, by decide⟩)) fun H3 e3 => q _ H3 ((e1.trans e2).trans e3) ⟨_, rfl⟩
def sp_pile (K : PySem.W.Frag) : Sp := fun vs H Q _ => ∃ (a : Addr) (ns : List Int) (k : Nat), vs = [.ref a, vi k] ∧ SqL K H a (ns.map V.int) ∧ ns.length ≤ 63 ∧ k < 20 ∧ ∀ p H', Ex H H' → H p = none → Pur H' p p 0 → Q (.ref p) H'
theorem c_pile (T : Txt mg) (D : Df K mg "_law_pile" s__law_pile ["_law_script", "_law_k"]) : Cl P w K mg base 1 "_law_pile" (sp_pile K) := by
  refine cl_of (k := 0) D sc__law_pile (fun vs H Q E h => ?_) (fun f cdv A outer s H vs Q E hr h => ?_)
  · obtain ⟨a, ns, k, rfl, _⟩ := h
    rfl
  · obtain ⟨a, ns, k, rfl, hS, len, k20, q⟩ := h
    refine ⟨_, (pss_cons (ps_set (i := 2) sc__law_pile.nd rfl (.inl rfl) pe_int)
      (pss_cut (ps_if (pt_cmpR op_lt (pv 1) (pe_callB call_len_seq (by rfl) T.z_len PySem.boot_len (pa_cons (pv 0) pa_nil)) (nomark _))
        (pss_one (ps_set (i := 2) sc__law_pile.nd rfl (.inl rfl) (pe_ix ix_list (pv 0) (pv 1) (fun _ _ => rfl))))
        pss_nil)
      (pss_cons (ps_set (i := 3) sc__law_pile.nd rfl (.inl rfl) (pe_op op_mod (pv 2) (pe_op op_mulW (pe_op op_mulW (pe_op op_pow pe_int pe_int) (pe_op op_pow pe_int pe_int)) (pe_op op_pow pe_int pe_int))))
      (pss_one (ps_ret (pe_lst (pa_cons (pe_op op_mul (pv 3) (pe_callTy call_int1 (by rfl) T.z_int (by decide +kernel) (pa_cons (pe_cmpR op_ge (pe_callB call_abs (by rfl) T.z_abs (by decide +kernel) (pa_cons (pv 2) pa_nil)) (pe_op op_pow pe_int pe_int) (nomark _)) pa_nil))) (pa_cons (pe_op op_mod (pv 2) pe_int) (pa_cons (pe_op op_mul pe_int (pv 1)) pa_nil))))))))), ?_⟩
    refine q_asg ev_c fun H1 e1 => ?_
    refine q_cut (M := fun σ' H' => Ex H H' ∧ ∃ x : Int, σ' = [some (.ref a), some (vi k), some (.int x), none]) ?_ (fun σ' H2 hM => ?_)
    · refine s_when (b := decide ((k : Int) < ((ns.map V.int).length : Int))) (et_test (ev_op (ev_var rfl) (ev_len (K := K) (ev_var rfl) (ex_l e1 hS)) rv_I0)) (fun hb H2 e2 => ?_) (fun hb H2 e2 => ⟨e1.trans e2, 0, rfl⟩)
      have kl : k < ns.length := by
        have := of_decide_eq_true hb
        rw [List.length_map] at this
        omega
      exact s_asg (ev_op (ev_var rfl) (ev_var rfl) (rv_ixL (ex_l (e1.trans e2) hS) (atI_vi (by rw [List.getElem?_map, List.getElem?_eq_getElem kl]; rfl)))) fun H3 e3 => ⟨(e1.trans e2).trans e3, ns[k], rfl⟩
    obtain ⟨e2, x, hσ⟩ := hM
    subst hσ
    have bb : ∀ i : Int, i.natAbs < 2 ^ 400 → CMulW i ((10 : Int) ^ (60 : Int).toNat) := fun i hi => wide_mul (a := 400) (b := 200) hi (by decide +kernel) (by decide) (by decide) (by decide)
    refine q_asg (ev_op (ev_var rfl) (ev_op (ev_op (ev_op ev_c ev_c (rv_I ⟨by decide, by decide, by decide⟩)) (ev_op ev_c ev_c (rv_I ⟨by decide, by decide, by decide⟩)) (rv_I (bb _ (by decide +kernel)))) (ev_op ev_c ev_c (rv_I ⟨by decide, by decide, by decide⟩)) (rv_I (bb _ (by decide +kernel)))) (rv_I (by decide +kernel))) fun H3 e3 => ?_
    have e10 : ((10 : Int) ^ (60 : Int).toNat * 10 ^ (60 : Int).toNat * 10 ^ (60 : Int).toNat) = 10 ^ 180 := by decide +kernel
    rw [e10]
    have d0 : 0 ≤ x % (10 : Int) ^ 180 := Int.emod_nonneg _ (by decide +kernel)
    have d1 : x % (10 : Int) ^ 180 < 10 ^ 180 := Int.emod_lt_of_pos _ (by decide +kernel)
    generalize x % (10 : Int) ^ 180 = dd at d0 d1
    show tRet _ _ [some (.ref a), some (vi k), some (.int x), some (.int dd)] H3
    have m0 : 0 ≤ x % (2147483629 : Int) := Int.emod_nonneg _ (by decide)
    have m1 : x % (2147483629 : Int) < 2147483629 := Int.emod_lt_of_pos _ (by decide)
    have last : Ev (tOp (rI CMul fun i j => .int (i * j)) (tC (.int 131)) (tVar 1)) [some (.ref a), some (vi k), some (.int x), some (.int dd)] H3 (vi (131 * k)) := ev_is (ev_op ev_c (ev_var rfl) (rv_I (.inl ⟨by decide, by decide⟩))) (by show V.int (131 * (k : Int)) = V.int ((131 * k : Nat) : Int); rw [Int.natCast_mul]; rfl)
    have mid : Ev (tOp (rI (fun _ j => 0 < j) fun i j => .int (i % j)) (tVar 2) (tC (.int 2147483629))) [some (.ref a), some (vi k), some (.int x), some (.int dd)] H3 (.int (x % 2147483629)) := ev_op (ev_var rfl) ev_c (rv_I (by decide))
    have cmB : ∀ b : Bool, CMul dd (if b = true then 1 else 0) := fun b => .inr (by cases b <;> exact ⟨by decide, by decide⟩)
    have mulB : ∀ b : Bool, 0 ≤ dd * (if b = true then 1 else 0) ∧ dd * (if b = true then 1 else 0) < 10 ^ 180 := fun b => by
      cases b with
      | true =>
        rw [if_pos rfl, Int.mul_one]
        exact ⟨d0, d1⟩
      | false =>
        rw [if_neg (by decide), Int.mul_zero]
        exact ⟨by decide, by decide +kernel⟩
    refine s_retL (el_lst (ea_cons (ev_op (ev_var rfl) (ev_intB (ev_op (ev_cb (z := .int (if x < 0 then -x else x)) (ea_cons (ev_var rfl) ea_nil) (fun H4 e4 Q q => ⟨x, rfl, q H4 (Ex.refl _)⟩)) (ev_op ev_c ev_c (rv_I ⟨by decide, by decide, by decide⟩)) rv_I0)) (rv_I (cmB _))) (ea_cons mid (ea_cons last ea_nil))) (by show 3 ≤ 100000; decide)) fun p H4 np e4 hp => q p H4 (e2.trans (e3.trans e4)) (fresh_back (e2.trans e3) np) ⟨rfl, _, _, 131 * k, hp, (mulB _).1, (mulB _).2, m0, m1, by omega⟩
/-- a number below n out of the pile -/
def sp_take : Sp := fun vs H Q _ => ∃ (p c : Addr) (t n : Nat), vs = [.ref p, vi n] ∧ Pur H p c t ∧ t ≤ 90000 ∧ 1 ≤ n ∧ n ≤ 1000 ∧ ∀ k H', k < n → Off H H' p c → Pur H' p c (t + 1) → Q (vi k) H'
theorem c_take (T : Txt mg) (D : Df K mg "_law_take" s__law_take ["_law_pile_here", "_law_many"]) (c_mixed : Cl P w K mg base 1 "_law_mixed" sp_mixed) : Cl P w K mg base 2 "_law_take" sp_take := by
  refine cl_of (k := 1) D sc__law_take (fun vs H Q E h => ?_) (fun f cdv A outer s H vs Q E hr h => ?_)
  · obtain ⟨p, c, t, n, rfl, _⟩ := h
    rfl
  · obtain ⟨p, c, t, n, rfl, pu, t9, n1, n2, q⟩ := h
    refine ⟨_, (pss_cons (ps_if (pt_cmpR op_eq (pe_ix ix_list (pv 0) pe_int (fun _ _ => rfl)) pe_int (nomark _))
        (pss_cons (ps_asg (pe_op op_add (pe_ix ix_list (pv 0) pe_int (fun _ _ => rfl)) pe_int) (pg_sub (pv 0) pe_int set_list))
        (pss_one (ps_ret (pe_op op_mod (pe_cl c_mixed hr (by first | decide | omega) (by rfl) (pa_cons (pe_ix ix_list (pv 0) pe_int (fun _ _ => rfl)) (pa_cons (pe_ix ix_list (pv 0) pe_int (fun _ _ => rfl)) pa_nil))) (pv 1)))))
        pss_nil)
      (pss_cons (ps_set (i := 2) sc__law_take.nd rfl (.inl rfl) (pe_op op_mod (pe_ix ix_list (pv 0) pe_int (fun _ _ => rfl)) (pv 1)))
      (pss_cons (ps_asg (pe_op op_fdiv (pe_ix ix_list (pv 0) pe_int (fun _ _ => rfl)) (pv 1)) (pg_sub (pv 0) pe_int set_list))
      (pss_one (ps_ret (pv 2)))))), ?_⟩
    obtain ⟨rfl, d, m, k, hp, d0, d1, m0, m1, kt⟩ := pu
    refine q_when (b := decide (d = 0)) (et_is (et_test (ev_op (ev_op (ev_var rfl) ev_c (rv_ixL (sq_of hp) (atI_vi (k := 0) rfl))) ev_c (rv_eq rfl))) (by
      show decide (V.int d = V.int 0) = decide (d = 0)
      exact decide_eq_decide.mpr ⟨fun z => by injection z, fun z => by rw [z]⟩)) (fun hb H1 e1 => ?_) (fun hb H1 e1 => ?_)
    · have hp1 := e1 _ _ hp
      refine q_setL (j := 2) hp1 (ev_op (ev_op (ev_var rfl) ev_c (rv_ixL (sq_of hp1) (atI_vi (k := 2) rfl))) ev_c rv_I0) (ev_var rfl) ev_c (by show 2 < 3; decide) fun H2 e2 => ?_
      have h2 : (upd H2 c (.lst (List.set [.int d, .int m, vi k] 2 (.int ((k : Int) + 1))))) c = some (.lst [.int d, .int m, vi (k + 1)]) := by
        rw [upd_same]
        show some (HO.lst [.int d, .int m, .int ((k : Int) + 1)]) = some (.lst [.int d, .int m, .int ((k + 1 : Nat) : Int)])
        rw [Int.natCast_add]
        rfl
      have off2 : Off H (upd H2 c (.lst (List.set [.int d, .int m, vi k] 2 (.int ((k : Int) + 1))))) c c := fun b o b1 b2 hb => by rw [upd_ne b1]; exact (e1.trans e2) _ _ hb
      generalize upd H2 c (.lst (List.set [.int d, .int m, vi k] 2 (.int ((k : Int) + 1)))) = H3 at h2 off2
      refine do_ret (do_op (ep_call (m, k + 1) (ea_cons (ev_op (ev_var rfl) ev_c (rv_ixL (sq_of h2) (atI_vi (k := 1) rfl))) (ea_cons (ev_op (ev_var rfl) ev_c (rv_ixL (sq_of h2) (atI_vi (k := 2) rfl))) ea_nil)) (fun H4 e4 => ⟨rfl, m0, m1, by show k + 1 ≤ 200000; omega⟩) H3 (Ex.refl _) _ fun v H4 e4 hv => ?_))
      obtain ⟨x, rfl⟩ := hv
      refine do_ev (ev_var rfl) fun H5 e5 => ?_
      obtain ⟨j, hj, ej⟩ := vi_mod (x := x) n1
      refine ⟨x, (n : Int), rfl, rfl, by show (0 : Int) < (n : Int); omega, ?_⟩
      show Q (V.int (x % (n : Int))) H5
      rw [ej]
      have e35 := e4.trans e5
      exact q j H5 hj (off2.trans (.of_ex e35)) ⟨rfl, d, m, k + 1, e35 _ _ h2, d0, d1, m0, m1, by omega⟩
    · have hp1 := e1 _ _ hp
      obtain ⟨j, hj, ej⟩ := vi_mod (x := d) n1
      refine q_asg (v := vi j) (ev_is (ev_op (ev_op (ev_var rfl) ev_c (rv_ixL (sq_of hp1) (atI_vi (k := 0) rfl))) (ev_var rfl) (rv_I (by show (0 : Int) < (n : Int); omega))) ej) fun H2 e2 => ?_
      have hp2 := e2 _ _ hp1
      refine q_setL (j := 0) hp2 (ev_op (ev_op (ev_var rfl) ev_c (rv_ixL (sq_of hp2) (atI_vi (k := 0) rfl))) (ev_var rfl) (rv_I ⟨by omega, by omega⟩)) (ev_var rfl) ev_c (by show 0 < 3; decide) fun H3 e3 => ?_
      refine s_ret (ev_var rfl) fun H4 e4 => q j H4 hj (fun b o b1 b2 hb => e4 _ _ (by rw [upd_ne b1]; exact ((e1.trans e2).trans e3) _ _ hb)) ⟨rfl, d / n, m, k, e4 _ _ upd_same, Int.ediv_nonneg d0 (by omega), ?_, m0, m1, by omega⟩
      exact Int.lt_of_le_of_lt (Int.ediv_le_self _ d0) d1
/-- take(pile, e), e worth n -/
theorem do_take {ta tb : TE} {E : XK} {Q : VK} (hp : Ev ta σ H (.ref p)) (hn : Ev tb σ H (vi n)) (pu : Pur H p c t) (t1 : t ≤ 90000) (n1 : 1 ≤ n) (n2 : n ≤ 1000) (q : ∀ k H', k < n → Off H H' p c → Pur H' p c (t + 1) → Q (vi k) H') :
    tCall sp_take [] E (tCons ta (tCons tb tNil)) σ H Q :=
  ea_cons hp (ea_cons hn ea_nil) H (Ex.refl H) _ fun H1 e1 => ⟨p, c, t, n, rfl, pu.ex e1, t1, n1, n2, fun k H' hk o p' => q k H' hk ((Off.of_ex e1).trans o) p'⟩
end
end K11
end
section
namespace K11
open PySem PySem.Spec PyProof.Rows L2 Evl RZ Dw M20
theorem perm_eraseV {α : Type} : ∀ {xs : List α} {k : Nat} {x : α}, xs[k]? = some x → (x :: xs.eraseIdx k).Perm xs
  | [], k, x, h => by simp at h
  | y :: r, 0, x, h => by
    cases Option.some.inj h
    exact List.Perm.refl _
  | y :: r, k + 1, x, h => by
    have z := perm_eraseV (xs := r) (k := k) (x := x) h
    rw [List.eraseIdx_cons_succ]
    exact (List.Perm.swap y x _).trans (z.cons y)
theorem paired_erase {α β : Type} {R : α → β → Prop} : ∀ {xs : List α} {ys : List β} (k : Nat), Paired R xs ys → Paired R (xs.eraseIdx k) (ys.eraseIdx k)
  | _, _, _, .nil => .nil
  | _, _, 0, .cons a b => b
  | _, _, k + 1, .cons a b => .cons a (paired_erase k b)
/-- letters a to t -/
abbrev abct : Str := "abcdefghijklmnopqrst"
theorem abct_l : abct.length = 20 := by decide +kernel
theorem abct_abc : ∀ c ∈ abct.cps.toList, c ∈ letters.cps.toList := by decide +kernel
theorem name_one {c : Nat} (h : c ∈ abct.cps.toList) : Name ⟨#[c]⟩ := ⟨by show 1 ≤ 1; decide, by show 1 ≤ 4; decide, fun x hx => by
  have : x = c := by simpa using hx
  rw [this]
  exact abct_abc c h⟩
theorem name_more {z : Str} {c : Nat} (nz : Name z) (l : z.length ≤ 3) (h : c ∈ abct.cps.toList) : Name (z ++ (⟨#[c]⟩ : Str)) := ⟨by rw [len_app]; have := nz.l1; omega, by rw [len_app]; show z.length + 1 ≤ 4; omega, fun x hx => by
  have e : (z ++ (⟨#[c]⟩ : Str)).cps.toList = z.cps.toList ++ [c] := by
    show (z.cps ++ #[c]).toList = _
    rw [Array.toList_append]
  rw [e, List.mem_append] at hx
  rcases hx with hx | hx
  · exact nz.abc x hx
  · rw [List.mem_singleton.mp hx]
    exact abct_abc c h⟩
def dpr (p : Str × Nat) : PyData := .tuple [.str p.1, .int ((p.2 : Nat) : Int)]
theorem map_eraseV {α β : Type} (f : α → β) : ∀ (xs : List α) (k : Nat), (xs.map f).eraseIdx k = (xs.eraseIdx k).map f
  | [], _ => rfl
  | _ :: _, 0 => rfl
  | x :: r, k + 1 => by
    rw [List.map_cons, List.eraseIdx_cons_succ, List.eraseIdx_cons_succ, map_eraseV f r k, List.map_cons]
section
variable {P : Program} {w : World} {K : PySem.W.Frag} {mg : Str → Option Value} {base : Heap} {σ : L2.St} {H H' : Hp} {p c : Addr} {n m k t : Nat} {v : V} {te : TE}
theorem sq_updL {r b : Addr} {x0 x1 ts : List V} (hr : H r = some (.lst x0)) (h : SqT K H b ts) : SqT K (upd H r (.lst x1)) b ts := h.imp (fun z => z.imp (fun z => by
  have ne : b ≠ r := fun e => by
    rw [e, hr] at z
    cases z
  rw [upd_ne ne]
  exact z) (fun ⟨o, z⟩ => ⟨o, by
  have ne : b ≠ r := fun e => by
    rw [e, hr] at z
    cases z
  rw [upd_ne ne]
  exact z⟩)) id
theorem el_listL {xs : List V} {a : Addr} (h : Ev te σ H (.ref a)) (hp : SqL K H a xs) : EvL (tCB (fun xs H Q => ∃ p ys, xs = [.ref p] ∧ (SqL K H p ys ∨ SqT K H p ys) ∧ ∀ l, H l = none → Q (.ref l) (upd H l (.lst ys))) (tCons te tNil)) σ H xs := fun H1 e Q q =>
  h H1 e _ fun H2 e2 => ⟨a, xs, rfl, .inl (ex_l (e.trans e2) hp), fun l nl => q l _ (fresh_back e2 nl) (e2.trans (Ex.new nl)) upd_same⟩
/-- l.pop(e) -/
theorem do_popAt {ta te : TE} {l : Addr} {Q : VK} (hl : ∃ xs, H l = some (.lst xs)) (ha : Ev ta σ H (.ref l)) (h : ∀ H1, Ex H H1 → te σ H1 fun v H2 => rPopAt (.ref l) [v] H2 Q) : tBM K "list" rPopAt ta (tCons te tNil) σ H Q :=
  ha H (Ex.refl H) _ fun H1 e1 => by
    obtain ⟨xs, hx⟩ := hl
    exact ⟨Or.inl ⟨rfl, xs, sq_of (e1 l _ hx)⟩, h H1 e1⟩
theorem six_of {i n : Nat} (h : i < n) : seqIndex? (i : Int) n = some i := by
  unfold seqIndex?
  simp [show ¬ ((i : Int) < 0) by omega, h]
/-- pairs and what they are -/
def DPs (K : PySem.W.Frag) (H : Hp) (ps : List Addr) (sg : List (Str × Nat)) : Prop := Paired (fun a d => SqT K H a [.str d.1, vi d.2]) ps sg
theorem dps_dp {ps : List Addr} {sg : List (Str × Nat)} (h : DPs K H ps sg) : DpAll K H (ps.map V.ref) (sg.map dpr) := by
  induction h with
  | nil => exact .nil
  | cons a b ih => exact .cons (.tup a (.cons (.str _) (.cons (.int _) .nil))) ih
theorem dps_et {ps : List Addr} {sg : List (Str × Nat)} (e : ET K H H') (h : DPs K H ps sg) : DPs K H' ps sg := paired_imp (fun _ _ z => e _ _ z) h
theorem dps_snoc {ps : List Addr} {sg : List (Str × Nat)} {r : Addr} {d : Str × Nat} (h : DPs K H ps sg) (s : SqT K H r [.str d.1, vi d.2]) : DPs K H (ps ++ [r]) (sg ++ [d]) := by
  induction h with
  | nil => exact .cons s .nil
  | cons a b ih => exact .cons a ih
theorem gd_pairs {sg : List (Str × Nat)} (h : ∀ d ∈ sg, Name d.1 ∧ d.2 ≤ 2) (l : sg.length ≤ 10) : Gb 2 400 (.list (sg.map dpr)) := by
  refine (gb_lst (gba_all (k := 1) (W := 28) fun d hd => ?_)).mono (Nat.le_refl _) (by rw [List.length_map]; omega)
  obtain ⟨x, hx, rfl⟩ := List.mem_map.mp hd
  obtain ⟨nm, p2⟩ := h x hx
  exact (gb_tup (gba_cons (K11.Gd.gb (gd_strB (name_cps nm) nm.l4)) (gba_one ((gb_dig (show x.2 ≤ 7 by omega)).mono (Nat.le_refl _) (show 10 ≤ 20 by decide))))).mono (Nat.le_refl _) (by decide)
def sp_order (K : PySem.W.Frag) : Sp := fun vs H Q _ => ∃ (p c : Addr) (t : Nat) (l : Addr) (ps : List Addr) (sg : List (Str × Nat)), vs = [.ref p, .ref l] ∧ Pur H p c t ∧ t ≤ 80000 ∧ H l = some (.lst (ps.map V.ref)) ∧ l ≠ p ∧ l ≠ c ∧ DPs K H ps sg ∧ (∀ d ∈ sg, Name d.1 ∧ d.2 ≤ 2) ∧ sg.length ≤ 4 ∧
  ∀ l' qs sg' t' H', H l' = none → Off H H' p c → Pur H' p c t' → t' ≤ t + 4 → H' l' = some (.lst (qs.map V.ref)) → DPs K H' qs sg' → sg'.Perm sg → Q (.ref l') H'
theorem c_order (T : Txt mg) (D : Df K mg "_law_order" s__law_order ["_law_pile_here", "_law_some"]) (c_take : Cl P w K mg base 2 "_law_take" sp_take) : Cl P w K mg base 3 "_law_order" (sp_order K) := by
  refine cl_of (k := 2) D sc__law_order (fun vs H Q E h => ?_) (fun f cdv A outer s H vs Q E hr h => ?_)
  · obtain ⟨p, c, t, l, ps, sg, rfl, _⟩ := h
    rfl
  · obtain ⟨p, c, t, l, ps, sg, rfl, pu, t8, hl, lp, lc, dp, nm, l4, q⟩ := h
    refine ⟨_, (pss_cons (ps_set (i := 2) sc__law_order.nd rfl (.inl rfl) (pe_callTy call_list_of (by rfl) T.z_list (by decide +kernel) (pa_cons (pv 1) pa_nil)))
      (pss_cons (ps_set (i := 3) sc__law_order.nd rfl (.inl rfl) (pe_lst pa_nil))
      (pss_cons (ps_while PassesOwn.never (pt_cmpR (op_neD hr.units) (pv 2) (pe_lst pa_nil) (nomark _))
        (pss_one (ps_expr (pe_bm PySem.F.plainAttrs_list PySem.F.slot_list_append PySem.F.type_list_append mt_append (pv 3) (pa_cons (pe_bm PySem.F.plainAttrs_list PySem.F.slot_list_pop PySem.F.type_list_pop mt_popAt (pv 2) (pa_cons (pe_cl c_take hr (by first | decide | omega) (by rfl) (pa_cons (pv 0) (pa_cons (pe_callB call_len_seq (by rfl) T.z_len PySem.boot_len (pa_cons (pv 2) pa_nil)) pa_nil))) pa_nil)) pa_nil)))))
      (pss_one (ps_ret (pv 3)))))), ?_⟩
    refine q_asgL (xs := ps.map V.ref) (el_listL (K := K) (ev_var rfl) (sq_of hl)) fun a H1 na e1 ha => ?_
    refine q_asgL (el_lst ea_nil (Nat.zero_le _)) fun b H2 nb e2 hb => ?_
    show tSeq _ _ _ [some (.ref p), some (.ref l), some (.ref a), some (.ref b)] H2
    have e02 := e1.trans e2
    have ab : a ≠ b := fun z => by
      rw [← z, ha] at nb
      cases nb
    obtain ⟨ap, ac⟩ := pu.fresh na
    have nbH : H b = none := fresh_back e1 nb
    obtain ⟨bp, bc⟩ := pu.fresh nbH
    refine q_while (fun m σ' H' => σ' = [some (.ref p), some (.ref l), some (.ref a), some (.ref b)] ∧ Off H H' p c ∧ Pur H' p c (t + 4 - m) ∧ ∃ (xs ys : List Addr) (sx sy : List (Str × Nat)), H' a = some (.lst (xs.map V.ref)) ∧ H' b = some (.lst (ys.map V.ref)) ∧ DPs K H' xs sx ∧ DPs K H' ys sy ∧ (sx ++ sy).Perm sg ∧ sx.length = m) sg.length ⟨rfl, .of_ex e02, (by
      obtain ⟨r, d, mm, k, z⟩ := pu.ex e02
      exact ⟨r, d, mm, k, z.1, z.2.1, z.2.2.1, z.2.2.2.1, z.2.2.2.2.1, by omega⟩), ps, [], sg, [], e2 _ _ ha, hb, dps_et (Dw.Ex.et e02) dp, .nil, by rw [List.append_nil], rfl⟩ (fun m σ' H' hW => ?_)
    obtain ⟨hσ, o, pu', xs, ys, sx, sy, hxa, hyb, dx, dy, pm, lm⟩ := hW
    subst hσ
    have lxs : xs.length = sx.length := paired_len dx
    have lall : sx.length + sy.length = sg.length := by rw [← List.length_append]; exact pm.length_eq
    have lys : ys.length = sy.length := paired_len dy
    have nx : ∀ d ∈ sx, Name d.1 ∧ d.2 ≤ 2 := fun d hd => nm d (pm.mem_iff.mp (List.mem_append_left _ hd))
    refine ⟨!(sx.map dpr).isEmpty, et_test (ev_opL (ev_var rfl) (el_lst ea_nil (by show 0 ≤ 100000; decide)) (fun r0 H3 hr0 e3 => fun H4 e4 Q4 q4 => ⟨.list (sx.map dpr), .list [], .lst (sq_of ((e3.trans e4) _ _ hxa)) (dps_dp (dps_et (Dw.Ex.et (e3.trans e4)) dx)), .lst (sq_of (e4 _ _ hr0)) .nil, shapedB (gd_pairs nx (by omega)) (by decide), by decide +kernel, by
      have z := q4 H4 (Ex.refl _)
      cases sx with
      | nil => exact z
      | cons a b => exact z⟩)), fun hb3 H3 e3 => ?_, fun hb3 H3 e3 => ?_⟩
    · refine ⟨fun σ2 H2 => ∃ m', m' < m ∧ (σ2 = [some (.ref p), some (.ref l), some (.ref a), some (.ref b)] ∧ Off H H2 p c ∧ Pur H2 p c (t + 4 - m') ∧ ∃ (xs ys : List Addr) (sx sy : List (Str × Nat)), H2 a = some (.lst (xs.map V.ref)) ∧ H2 b = some (.lst (ys.map V.ref)) ∧ DPs K H2 xs sx ∧ DPs K H2 ys sy ∧ (sx ++ sy).Perm sg ∧ sx.length = m'), fun _ _ z => z, ?_⟩
      have m1 : 1 ≤ m := by
        cases sx with
        | nil => cases hb3
        | cons x r => rw [← lm, List.length_cons]; omega
      refine do_app (e3 _ _ hyb) (ev_var rfl) fun H4 e4 => do_popAt ⟨_, (e3.trans e4) _ _ hxa⟩ (ev_var rfl) fun H5 e5 => ?_
      have e35 := e3.trans (e4.trans e5)
      refine do_take (n := m) (ev_var rfl) (ev_is (ev_len (K := K) (ev_var rfl) (sq_of (e35 _ _ hxa))) (by rw [List.length_map, lxs, lm])) (pu'.ex e35) (by omega) m1 (by omega) fun k H6 hk o6 pu6 => ?_
      have o36 : Off H' H6 p c := (Off.of_ex e35).trans o6
      have h6a := o36 _ _ ap ac hxa
      have h6b := o36 _ _ bp bc hyb
      have hk' : k < xs.length := by omega
      refine ⟨a, xs.map V.ref, (k : Int), k, .ref xs[k], rfl, rfl, h6a, by omega, by omega, six_of (by rw [List.length_map]; exact hk'), by rw [List.getElem?_map, List.getElem?_eq_getElem hk']; rfl, ?_⟩
      refine ⟨b, ys.map V.ref, _, rfl, rfl, by rw [upd_ne (Ne.symm ab)]; exact h6b, sz_lt (by rw [List.length_map]; omega), ?_⟩
      obtain ⟨d, hd, hs⟩ := paired_at dx (List.getElem?_eq_getElem hk')
      have u1 : ∀ a' ts, SqT K H6 a' ts → SqT K (upd (upd H6 a (.lst ((xs.map V.ref).eraseIdx k))) b (.lst (ys.map V.ref ++ [.ref xs[k]]))) a' ts := fun a' ts z => sq_updL (x0 := ys.map V.ref) (by rw [upd_ne (Ne.symm ab)]; exact h6b) (sq_updL h6a z)
      have et : ET K H' (upd (upd H6 a (.lst ((xs.map V.ref).eraseIdx k))) b (.lst (ys.map V.ref ++ [.ref xs[k]]))) := fun a' ts z => u1 _ _ (o36.et pu' _ _ z)
      refine ⟨m - 1, by omega, rfl, fun b' o' h1 h2 hh => ?_, ?_, xs.eraseIdx k, ys ++ [xs[k]], sx.eraseIdx k, sy ++ [d], ?_, ?_, paired_erase k (dps_et et dx), ?_, ?_, ?_⟩
      · have z := (o.trans o36) b' o' h1 h2 hh
        rw [upd_ne (ne_of_none hh nbH), upd_ne (ne_of_none hh na)]
        exact z
      · have z := (pu6.upd ap ac (o := .lst ((xs.map V.ref).eraseIdx k))).upd bp bc (o := .lst (ys.map V.ref ++ [.ref xs[k]]))
        obtain ⟨r, d0, mm, k0, z⟩ := z
        exact ⟨r, d0, mm, k0, z.1, z.2.1, z.2.2.1, z.2.2.2.1, z.2.2.2.2.1, by omega⟩
      · rw [upd_ne ab, upd_same, map_eraseV]
      · rw [upd_same, List.map_append]
        rfl
      · exact dps_snoc (dps_et et dy) (et _ _ hs)
      · have pe := perm_eraseV hd
        have : ((sx.eraseIdx k) ++ (sy ++ [d])).Perm (sx ++ sy) := by
          refine (List.Perm.append_left _ (List.perm_append_comm)).trans ?_
          refine List.Perm.trans ?_ (List.Perm.append_right sy pe)
          show (sx.eraseIdx k ++ (d :: sy)).Perm (d :: (sx.eraseIdx k ++ sy))
          exact List.perm_middle
        exact this.trans pm
      · rw [List.length_eraseIdx]
        split <;> omega
    · have s0 : sx = [] := by
        cases sx with
        | nil => rfl
        | cons x r => cases hb3
      subst s0
      rw [List.nil_append] at pm
      refine s_ret (ev_var rfl) fun H4 e4 => q b ys sy _ H4 nbH (o.trans (.of_ex (e3.trans e4))) (pu'.ex (e3.trans e4)) (by omega) ((e3.trans e4) _ _ hyb) (dps_et (Dw.Ex.et (e3.trans e4)) dy) pm
theorem do_testT {Q : Bool → Hp → Prop} (h : te σ H fun x H1 => ∃ b, x = .bl b ∧ Q b H1) : tTest te σ H Q := h
theorem s_forRX {D : Ends} {tu : TS} {ta : TA} {j : Nat} (C : Nat → Hp → Prop) (h : ∀ Q : List V → Hp → Prop, (∀ n H1, C n H1 → Q [vi n] H1) → ta σ H Q) (hn : ∀ n H1, C n H1 → n ≤ 100000) (Pv : Nat → Nat → L2.St → Hp → Prop) (h0 : ∀ n H1, C n H1 → Pv n 0 σ H1)
    (hs : ∀ n i σ' H', i < n → Pv n i σ' H' → tu { D with nx := Pv n (i + 1), ct := Pv n (i + 1), bk := D.nx } (σ'.set j (some (vi i))) H') (hd : ∀ n σ' H', Pv n n σ' H' → D.nx σ' H') : tFor (iRng1 ta) (gName j) tu D σ H :=
  h _ fun n H1 c => ⟨(n : Int), rfl, by have := hn n H1 c; omega, by have := hn n H1 c; omega, for_range (D := D) (lo := 0) (n := ((n : Nat) : Int).toNat) (Pv n) (h0 n H1 c) (fun i σ' H' hi p => by
    have e0 : (0 : Int) + (i : Int) = (i : Int) := Int.zero_add _
    show tu { D with nx := Pv n (i + 1), ct := Pv n (i + 1), bk := D.nx } (σ'.set j (some (.int ((0 : Int) + (i : Int))))) H'
    rw [e0]
    exact hs n i σ' H' (by rw [Int.toNat_natCast] at hi; exact hi) p) (fun σ' H' p => hd n σ' H' (by rw [Int.toNat_natCast] at p; exact p))⟩
/-- a sign of a text, by a draw -/
theorem do_sign {ta tp : TE} {E : XK} {Q : VK} (h : Ev ta σ H (.str abct)) (hp : ∀ H1, Ex H H1 → Ev tp σ H1 (.ref p)) (pu : Pur H p c t) (t9 : t ≤ 90000) (q : ∀ d H', d ∈ abct.cps.toList → Off H H' p c → Pur H' p c (t + 1) → Q (.str ⟨#[d]⟩) H') : tOp rIxS ta (tCall sp_take [] E (tCons tp (tCons (tC (vi 20)) tNil))) σ H Q := do_op (do_ev h fun H1 e1 => do_take (n := 20) (hp H1 e1) ev_c (pu.ex e1) t9 (by decide) (by decide) fun k H2 hk o2 pu2 => by
  have lk : k < abct.cps.toList.length := by
    have : abct.cps.toList.length = 20 := abct_l
    omega
  exact ⟨abct, (k : Int), abct.cps.toList[k], rfl, rfl, sz_of (by rw [abct_l]; decide), atI_nat (List.getElem?_eq_getElem lk), q _ H2 (List.getElem_mem lk) ((Off.of_ex e1).trans o2) pu2⟩)
def sp_word : Sp := fun vs H Q _ => ∃ (p c : Addr) (t : Nat), vs = [.ref p] ∧ Pur H p c t ∧ t ≤ 80000 ∧ ∀ z t' H', Off H H' p c → Pur H' p c t' → t' ≤ t + 6 → Name z → Q (.str z) H'
theorem c_word (T : Txt mg) (D : Df K mg "_law_word" s__law_word ["_law_pile_here"]) (c_take : Cl P w K mg base 2 "_law_take" sp_take) : Cl P w K mg base 3 "_law_word" sp_word := by
  refine cl_of (k := 2) D sc__law_word (fun vs H Q E h => ?_) (fun f cdv A outer s H vs Q E hr h => ?_)
  · obtain ⟨p, c, t, rfl, _⟩ := h
    rfl
  · obtain ⟨p, c, t, rfl, pu, t8, q⟩ := h
    refine ⟨_, (pss_cons (ps_set (i := 1) sc__law_word.nd rfl (.inl rfl) pe_str)
      (pss_cons (ps_set (i := 2) sc__law_word.nd rfl (.inl rfl) (pe_ix ix_str (pv 1) (pe_cl c_take hr (by first | decide | omega) (by rfl) (pa_cons (pv 0) (pa_cons pe_int pa_nil))) (fun _ _ => rfl)))
      (pss_cons (ps_if (pt_cmpR op_eq (pe_cl c_take hr (by first | decide | omega) (by rfl) (pa_cons (pv 0) (pa_cons pe_int pa_nil))) pe_int (nomark _))
        (pss_one (ps_for PassesOwn.never (by rfl) (pi_range1 (by rfl) T.z_range (pa_cons (pe_op op_add pe_int (pe_cl c_take hr (by first | decide | omega) (by rfl) (pa_cons (pv 0) (pa_cons pe_int pa_nil)))) pa_nil)) (pg_name (i := 3) sc__law_word.nd rfl (.inl rfl))
          (pss_one (ps_set (i := 2) sc__law_word.nd rfl (.inl rfl) (pe_op op_add_str (pv 2) (pe_ix ix_str (pv 1) (pe_cl c_take hr (by first | decide | omega) (by rfl) (pa_cons (pv 0) (pa_cons pe_int pa_nil))) (fun _ _ => rfl)))))))
        pss_nil)
      (pss_one (ps_ret (pv 2)))))), ?_⟩
    refine q_asg ev_c fun H1 e1 => ?_
    refine do_set (do_sign (ev_var rfl) (fun _ _ => ev_var rfl) (pu.ex e1) (by omega) fun d0 H2 hd0 o2 pu2 => ?_)
    have o02 : Off H H2 p c := (Off.of_ex e1).trans o2
    show tSeq _ _ _ [some (.ref p), some (.str abct), some (.str ⟨#[d0]⟩), none] H2
    refine q_whenE (do_testT (do_op (do_take (n := 3) (ev_var rfl) ev_c pu2 (by omega) (by decide) (by decide) fun k H3 hk o3 pu3 => do_ev ev_c fun H4 e4 => ⟨rfl, _, rfl, ?_⟩)))
    have o04 := (o02.trans o3).trans (.of_ex e4)
    have pu4 := pu3.ex e4
    cases hb : decide (V.int (k : Int) = V.int 0) with
    | false =>
      refine iteF ?_
      exact s_ret (ev_var rfl) fun H5 e5 => q _ _ H5 (o04.trans (.of_ex e5)) (pu4.ex e5) (by omega) (name_one hd0)
    | true =>
      refine iteT ?_
      refine s_forRX (fun n H5 => 1 ≤ n ∧ n ≤ 3 ∧ Off H H5 p c ∧ Pur H5 p c (t + 3)) (fun Q' q' => do_cons (do_op (do_ev ev_c fun H5 e5 => do_take (n := 3) (ev_var rfl) ev_c (pu4.ex e5) (by omega) (by decide) (by decide) fun j H6 hj o6 pu6 => ⟨1, (j : Int), rfl, rfl, do_nil ?_⟩))) (fun n H5 h => by omega)
        (fun n i σ' H5 => n ≤ 3 ∧ Off H H5 p c ∧ (∃ t', Pur H5 p c t' ∧ t' ≤ t + 3 + i) ∧ ∃ z y3, Name z ∧ z.length ≤ i + 1 ∧ σ' = [some (.ref p), some (.str abct), some (.str z), y3]) (fun n H5 h => ⟨h.2.1, h.2.2.1, ⟨_, h.2.2.2, Nat.le_refl _⟩, _, none, name_one hd0, by show 1 ≤ 1; decide, rfl⟩) (fun n i σ' H5 hi hP => ?_) (fun n σ' H5 hP => ?_)
      · have e : V.int (1 + (j : Int)) = vi (j + 1) := by
          show V.int (1 + (j : Int)) = V.int ((j + 1 : Nat) : Int)
          rw [Int.natCast_add, Int.add_comm]
          rfl
        show Q' [V.int (1 + (j : Int))] H6
        rw [e]
        exact q' (j + 1) H6 ⟨by omega, by omega, (o04.trans (.of_ex e5)).trans o6, pu6⟩
      · obtain ⟨n3, o5, ⟨t5, pu5, l5⟩, z, y3, nz, lz, hσ⟩ := hP
        subst hσ
        show tAsg _ _ _ [some (.ref p), some (.str abct), some (.str z), some (vi i)] H5
        refine do_asg (do_op (do_ev (ev_var rfl) fun H6 e6 => do_sign (ev_var rfl) (fun _ _ => ev_var rfl) (pu5.ex e6) (by omega) fun d1 H7 hd1 o7 pu7 => ⟨z, _, rfl, rfl, sz_of (by show z.length + 1 ≤ 100000; omega), ?_⟩))
        exact ⟨n3, (o5.trans (.of_ex e6)).trans o7, ⟨_, pu7, by omega⟩, _, _, name_more nz (by omega) hd1, by rw [len_app]; show z.length + 1 ≤ i + 1 + 1; omega, rfl⟩
      · obtain ⟨n3, o5, ⟨t5, pu5, l5⟩, z, y3, nz, lz, hσ⟩ := hP
        subst hσ
        exact s_ret (ev_var rfl) fun H6 e6 => q z _ H6 (o5.trans (.of_ex e6)) (pu5.ex e6) (by omega) nz
end
end K11
end
section
namespace K11
open PySem PySem.Spec PyProof.Rows L2 Evl RZ Dw M20
def fiveL : List Str := ["a", "b", "c", "d", "e"]
theorem five_ok : ∀ z ∈ fiveL, (1 ≤ z.length ∧ z.length ≤ 4) ∧ ∀ c ∈ z.cps.toList, c ∈ letters.cps.toList := by decide +kernel
section
variable {P : Program} {w : World} {K : PySem.W.Frag} {mg : Str → Option Value} {base : Heap} {σ : L2.St} {H H' : Hp} {p c : Addr} {n m k t : Nat} {v : V} {te : TE}
theorem ep_L {xs : List V} (h : EvL te σ H xs) : EvP te σ H (fun v H' => ∃ l, v = .ref l ∧ H l = none ∧ H' l = some (.lst xs)) := fun H1 e Q q => h H1 e _ fun l H2 nl e2 hl => q _ H2 e2 ⟨l, rfl, fresh_back e nl, hl⟩
def sp_sign (K : PySem.W.Frag) : Sp := fun vs H Q _ => ∃ (p c : Addr) (t : Nat), vs = [.ref p] ∧ Pur H p c t ∧ t ≤ 70000 ∧ ∀ v sg t' H', Off H H' p c → Pur H' p c t' → t' ≤ t + 60 → FSig K H' v sg → SigOk sg → 2 ≤ sg.length → (∃ z, (z, 0) ∈ sg) → Q v H'
theorem c_signature (T : Txt mg) (D : Df K mg "_law_signature" s__law_signature ["_law_pile_here"]) (c_take : Cl P w K mg base 2 "_law_take" sp_take) (c_word : Cl P w K mg base 3 "_law_word" sp_word) (c_order : Cl P w K mg base 3 "_law_order" (sp_order K)) : Cl P w K mg base 4 "_law_signature" (sp_sign K) := by
  refine cl_of (k := 3) D sc__law_signature (fun vs H Q E h => ?_) (fun f cdv A outer s H vs Q E hr h => ?_)
  · obtain ⟨p, c, t, rfl, _⟩ := h
    rfl
  · obtain ⟨p, c, t, rfl, pu, t7, q⟩ := h
    refine ⟨_, (pss_cons (ps_set (i := 1) sc__law_signature.nd rfl (.inr rfl) (pe_lst pa_nil))
      (pss_cons (ps_for PassesOwn.never (by rfl) (pi_range1 (by rfl) T.z_range (pa_cons (pe_op op_add pe_int (pe_cl c_take hr (by first | decide | omega) (by rfl) (pa_cons (pv 0) (pa_cons pe_int pa_nil)))) pa_nil)) (pg_name (i := 2) sc__law_signature.nd rfl (.inl rfl))
        (pss_cons (ps_set (i := 3) sc__law_signature.nd rfl (.inl rfl) (pe_cl c_word hr (by first | decide | omega) (by rfl) (pa_cons (pv 0) pa_nil)))
        (pss_cons (ps_if (pt_cmpR op_in_seq (pv 3) (pv 1) (by rfl))
          (pss_one (ps_set (i := 3) sc__law_signature.nd rfl (.inl rfl) (pe_ix ix_list (pe_lc (own := [("_law_one", 5)]) (g := (gName 5)) (by rfl) sc__law_signature.nd (pi_list (pe_lst (pa_cons pe_str (pa_cons pe_str (pa_cons pe_str (pa_cons pe_str (pa_cons pe_str pa_nil))))))) (blkOk_by (own := [("_law_one", 5)]) (N := ["_law_pile_here", "_law_names", "_law_k", "_law_word_here", "_law_found", "_law_one"]) (sc := defScope s__law_signature) (by decide +kernel)) (fun _ _ _ _ _ => (pg_name (i := 5) sc__law_signature.nd rfl (.inl rfl))) (fun _ _ _ _ _ => (pts_one (pt_cmpR (op_notIn_seqK K) (pv 5) (pv 1) (by rfl)))) (fun _ _ _ _ _ => (pv 5))) pe_int (fun _ _ => rfl))))
          pss_nil)
        (pss_one (ps_expr (pe_bm PySem.F.plainAttrs_list PySem.F.slot_list_append PySem.F.type_list_append mt_append (pv 1) (pa_cons (pv 3) pa_nil)))))))
      (pss_cons (ps_set (i := 4) sc__law_signature.nd rfl (.inl rfl) (pe_lst (pa_cons (pe_tup (pa_cons (pe_ix ix_list (pv 1) pe_int (fun _ _ => rfl)) (pa_cons pe_int pa_nil))) pa_nil)))
      (pss_cons (ps_for PassesOwn.never (by rfl) (pi_list (pe_slice sl_list (pv 1) (po_some pe_int) po_none)) (pg_name (i := 3) sc__law_signature.nd rfl (.inl rfl))
        (pss_one (ps_expr (pe_bm PySem.F.plainAttrs_list PySem.F.slot_list_append PySem.F.type_list_append mt_append (pv 4) (pa_cons (pe_tup (pa_cons (pv 3) (pa_cons (pe_ix ix_list (pe_lst (pa_cons pe_int (pa_cons pe_int (pa_cons pe_int (pa_cons pe_int (pa_cons pe_int (pa_cons pe_int pa_nil))))))) (pe_cl c_take hr (by first | decide | omega) (by rfl) (pa_cons (pv 0) (pa_cons pe_int pa_nil))) (fun _ _ => rfl)) pa_nil))) pa_nil)))))
      (pss_one (ps_ret (pe_callTy call_tupF (by rfl) T.z_tuple (by decide +kernel) (pa_cons (pe_cl c_order hr (by first | decide | omega) (by rfl) (pa_cons (pv 0) (pa_cons (pv 4) pa_nil))) pa_nil)))))))), ?_⟩
    refine q_asgL (el_lst ea_nil (Nat.zero_le _)) fun l H1 nl e1 hl => ?_
    obtain ⟨lp, lc⟩ := pu.fresh nl
    show tSeq _ _ _ [some (.ref p), some (.ref l), none, none, none, none] H1
    refine q_forRX (fun n H2 => 2 ≤ n ∧ n ≤ 4 ∧ Off H1 H2 p c ∧ Pur H2 p c (t + 1)) (fun Q' q' => do_cons (do_op (do_ev ev_c fun H2 e2 => do_take (n := 3) (ev_var rfl) ev_c (pu.ex (e1.trans e2)) (by omega) (by decide) (by decide) fun j H3 hj o3 pu3 => ⟨2, (j : Int), rfl, rfl, do_nil ?_⟩))) (fun n H2 h => by omega)
      (fun n i σ' H' => (2 ≤ n ∧ n ≤ 4) ∧ Off H H' p c ∧ (∃ t', Pur H' p c t' ∧ t' ≤ t + 1 + 6 * i) ∧ (∃ zs : List Str, H' l = some (.lst (zs.map V.str)) ∧ (∀ z ∈ zs, Name z) ∧ zs.Nodup ∧ zs.length = i) ∧ ∃ y2 y3, σ' = [some (.ref p), some (.ref l), y2, y3, none, none])
      (fun n H2 h => ⟨⟨h.1, h.2.1⟩, (Off.of_ex e1).trans h.2.2.1, ⟨_, h.2.2.2, by omega⟩, ⟨[], h.2.2.1 _ _ lp lc hl, fun _ z => (nomatch z), List.nodup_nil, rfl⟩, none, none, rfl⟩) (fun n i σ' H2 hi hP => ?_) (fun n σ' H2 hP => ?_)
    · have e : V.int (2 + (j : Int)) = vi (j + 2) := by
        show V.int (2 + (j : Int)) = V.int ((j + 2 : Nat) : Int)
        rw [Int.natCast_add, Int.add_comm]
        rfl
      show Q' [V.int (2 + (j : Int))] H3
      rw [e]
      exact q' (j + 2) H3 ⟨by omega, by omega, (Off.of_ex e2).trans o3, pu3⟩
    · obtain ⟨⟨n2, n4⟩, o2, ⟨t2, pu2, lt2⟩, ⟨zs, hzs, nz, nd, lz⟩, y2, y3, hσ⟩ := hP
      subst hσ
      refine do_set (ea_cons (ev_var rfl) ea_nil H2 (Ex.refl _) _ fun H3 e3 => ⟨p, c, t2, rfl, pu2.ex e3, by omega, fun z t4 H4 o4 pu4 l4 nmz => ?_⟩)
      have o24 : Off H2 H4 p c := (Off.of_ex e3).trans o4
      have hz4 := o24 _ _ lp lc hzs
      show tSeq _ _ _ [some (.ref p), some (.ref l), some (vi i), some (.str z), none, none] H4
      have fin : ∀ (z : Str) (H5 : Hp) {D : Ends}, Ex H4 H5 → Name z → z ∉ zs → (∀ σ' H', ((2 ≤ n ∧ n ≤ 4) ∧ Off H H' p c ∧ (∃ t', Pur H' p c t' ∧ t' ≤ t + 1 + 6 * (i + 1)) ∧ (∃ zs : List Str, H' l = some (.lst (zs.map V.str)) ∧ (∀ z ∈ zs, Name z) ∧ zs.Nodup ∧ zs.length = i + 1) ∧ ∃ y2 y3, σ' = [some (.ref p), some (.ref l), y2, y3, none, none]) → D.nx σ' H') → tDrop (tBM K "list" rAppend (tVar 1) (tCons (tVar 3) tNil)) D [some (.ref p), some (.ref l), some (vi i), some (.str z), none, none] H5 := fun z H5 D e5 nm nin hD => by
        refine s_app (e5 _ _ hz4) (ev_var rfl) (ev_var rfl) (by rw [List.length_map]; omega) fun H6 e6 => hD _ _ ?_
        have e46 := e5.trans e6
        refine ⟨⟨n2, n4⟩, fun b o b1 b2 hb => ?_, ⟨t4, ?_, by omega⟩, ⟨zs ++ [z], by rw [upd_same, List.map_append]; rfl, fun y hy => ?_, ?_, by rw [List.length_append, lz]; rfl⟩, _, _, rfl⟩
        · rw [upd_ne (ne_of_none hb nl)]
          exact ((o2.trans o24).trans (.of_ex e46)) b o b1 b2 hb
        · exact (pu4.ex e46).upd lp lc
        · rcases List.mem_append.mp hy with h | h
          · exact nz y h
          · rw [List.mem_singleton.mp h]
            exact nm
        · refine List.nodup_append.mpr ⟨nd, by simp, fun a ha b hb z2 => ?_⟩
          rw [List.mem_singleton.mp hb] at z2
          exact nin (z2 ▸ ha)
      refine q_when (b := decide (z ∈ zs)) (et_is (et_test (ev_op (ev_var rfl) (ev_var rfl) (rv_isL (K := K) (sq_of hz4) rfl (flat_strs zs)))) (by rw [inV_str])) (fun hb H5 e5 => ?_) (fun hb H5 e5 => fin z H5 e5 nmz (of_decide_eq_false hb) fun σ' H' h => h)
      have h5 := e5 _ _ hz4
      have fl := el_lcNL (K := K) (σ := [some (.ref p), some (.ref l), some (vi i), some (.str z), none, none]) (H := H5) (t := tTest (tOp (rIn K true) (tVar 5) (tVar 1))) (te := tVar 5) (j := 5) (vs := [5]) (fun i => decide (fiveL.getD i "" ∉ zs)) (fun i => .str (fiveL.getD i "")) (el_lst (vs := fiveL.map V.str) (ea_cons ev_c (ea_cons ev_c (ea_cons ev_c (ea_cons ev_c (ea_cons ev_c ea_nil))))) (by show 5 ≤ 100000; decide)) (by show 5 ≤ 40000; decide) (fun _ => rfl) (fun i x H6 e6 hx => ?_) (fun i x H6 e6 hx _ => ?_)
      · have e : (fiveL.map V.str).length = fiveL.length := List.length_map ..
        rw [e, given_filter fiveL (fun x => decide (x ∉ zs))] at fl
        obtain ⟨z9, r9, hz9⟩ : ∃ z9 r9, fiveL.filter (fun x => decide (x ∉ zs)) = z9 :: r9 := by
          cases hh : fiveL.filter (fun x => decide (x ∉ zs)) with
          | cons a b => exact ⟨a, b, rfl⟩
          | nil =>
            have sub : ∀ x ∈ fiveL, x ∈ zs := fun x hx => by
              have := List.filter_eq_nil_iff.mp hh x hx
              simpa using this
            have := nd_len (xs := fiveL) (ys := zs) (by decide +kernel) sub
            have f5 : fiveL.length = 5 := rfl
            omega
        rw [hz9] at fl
        have m9 : z9 ∈ fiveL.filter (fun x => decide (x ∉ zs)) := by rw [hz9]; exact List.mem_cons_self ..
        obtain ⟨m91, m92⟩ := List.mem_filter.mp m9
        refine do_asg (do_op (do_evL fl fun d H6 nd6 e6 hd => do_ev ev_c fun H7 e7 => ⟨d, _, 0, .str z9, rfl, rfl, sq_of (e7 _ _ hd), atI_vi (k := 0) rfl, ?_⟩))
        exact fin z9 H7 ((e5.trans e6).trans e7) ⟨(five_ok z9 m91).1.1, (five_ok z9 m91).1.2, (five_ok z9 m91).2⟩ (of_decide_eq_true m92) fun σ' H' h => h
      · have hi5 : i < fiveL.length := by
          have := (List.getElem?_eq_some_iff.mp hx).1
          rw [List.length_map] at this
          exact this
        rw [List.getElem?_map, List.getElem?_eq_getElem hi5] at hx
        cases Option.some.inj hx
        have g : fiveL.getD i "" = fiveL[i] := by rw [List.getD_eq_getElem?_getD, List.getElem?_eq_getElem hi5]; rfl
        rw [g]
        exact et_is (et_test (ev_op (ev_var rfl) (ev_var rfl) (rv_niL (K := K) (sq_of (e6 _ _ h5)) rfl (flat_strs zs)))) (by rw [inV_str]; simp)
      · have hi5 : i < fiveL.length := by
          have := (List.getElem?_eq_some_iff.mp hx).1
          rw [List.length_map] at this
          exact this
        rw [List.getElem?_map, List.getElem?_eq_getElem hi5] at hx
        cases Option.some.inj hx
        have g : fiveL.getD i "" = fiveL[i] := by rw [List.getD_eq_getElem?_getD, List.getElem?_eq_getElem hi5]; rfl
        rw [g]
        exact ev_var rfl
    · obtain ⟨⟨n2, n4⟩, o2, ⟨t2, pu2, lt2⟩, ⟨zs, hzs, nz, nd, lz⟩, y2, y3, hσ⟩ := hP
      subst hσ
      cases zs with
      | nil =>
        rw [List.length_nil] at lz
        omega
      | cons z0 zr =>
        rw [List.length_cons] at lz
        show tSeq _ _ _ [some (.ref p), some (.ref l), y2, y3, none, none] H2
        refine do_set (do_lst (do_cons (do_tup (do_cons (do_op (do_ev (ev_var rfl) fun I1 f1 => do_ev ev_c fun I2 f2 => ⟨l, _, 0, .str z0, rfl, rfl, sq_of ((f1.trans f2) _ _ hzs), atI_vi (k := 0) rfl, do_cons (do_ev ev_c fun I3 f3 => do_nil ⟨by show 2 ≤ sizeLine; decide, fun a0 na0 => do_nil ⟨by show 1 ≤ sizeLine; decide, fun b nb => ?_⟩⟩)⟩))))))
        have x1 : Ex H2 I3 := (f1.trans f2).trans f3
        have xa := Ex.new (o := .tup [.str z0, vi 0]) na0
        have nbH2 : H2 b = none := fresh_back (x1.trans xa) nb
        have nb0 : H b = none := by
          obtain ⟨bp, bc⟩ := pu2.fresh nbH2
          exact o2.back bp bc nbH2
        obtain ⟨bp, bc⟩ := pu.fresh nb0
        have xb := Ex.new (o := .lst [.ref a0]) nb
        have ha0 : SqT K (upd (upd I3 a0 (.tup [.str z0, .int 0])) b (.lst [.ref a0])) a0 [.str z0, vi 0] := ex_t xb (st_of upd_same)
        have hb0 : (upd (upd I3 a0 (.tup [.str z0, .int 0])) b (.lst [.ref a0])) b = some (.lst [.ref a0]) := upd_same
        have x3 : Ex H2 (upd (upd I3 a0 (.tup [.str z0, .int 0])) b (.lst [.ref a0])) := x1.trans (xa.trans xb)
        generalize upd (upd I3 a0 (.tup [.str z0, .int 0])) b (.lst [.ref a0]) = H3 at *
        have o3 := o2.trans (.of_ex x3)
        have pu3 := pu2.ex x3
        have hzs3 := x3 _ _ hzs
        show tSeq _ _ _ [some (.ref p), some (.ref l), y2, y3, some (.ref b), none] H3
        have cutL : cutV ((z0 :: zr).map V.str) (some (1 : Int)) none = zr.map V.str := by
          rw [show (1 : Int) = ((1 : Nat) : Int) from rfl, cut_from (by rw [List.length_map, List.length_cons]; omega)]
          rfl
        have sl := el_sl (K := K) (σ := [some (.ref p), some (.ref l), y2, y3, some (.ref b), none]) (H := H3) (te := tVar 1) (ev_var rfl) (eo_some (i := 1) (te := tC (.int 1)) ev_c) eo_none (sq_of hzs3)
        rw [cutL] at sl
        refine q_forP (ep_L sl) fun lv H4 e4 hl4 => ?_
        obtain ⟨sl4, rfl, nsl, hsl⟩ := hl4
        have nsl0 : H sl4 = none := by
          obtain ⟨bp, bc⟩ := pu3.fresh nsl
          exact o3.back bp bc nsl
        obtain ⟨sp4, sc4⟩ := pu.fresh nsl0
        have nslb : sl4 ≠ b := fun z => by
          rw [z, hb0] at nsl
          cases nsl
        refine ⟨sl4, _, rfl, sq_of hsl, fun i σ' H' => Off H H' p c ∧ H' sl4 = some (.lst (zr.map V.str)) ∧ (∃ t', Pur H' p c t' ∧ t' ≤ t + 30 + i) ∧ (∃ ps sg, H' b = some (.lst (ps.map V.ref)) ∧ DPs K H' ps sg ∧ sg.map (·.1) = z0 :: zr.take i ∧ (∀ d ∈ sg, d.2 ≤ 2) ∧ (z0, 0) ∈ sg) ∧ ∃ y3, σ' = [some (.ref p), some (.ref l), y2, y3, some (.ref b), none], ⟨o3.trans (.of_ex e4), hsl, ⟨_, pu3.ex e4, by omega⟩, ⟨[a0], [(z0, 0)], e4 _ _ hb0, .cons (ex_t e4 ha0) .nil, by rw [List.take_zero]; rfl, fun d hd => by rw [List.mem_singleton.mp hd]; exact Nat.zero_le _, List.mem_singleton.mpr rfl⟩, _, rfl⟩, fun i σ' H' _ h => sq_of h.2.1, fun i x σ' H5 hx hP => ?_, fun σ' H5 hP => ?_⟩
        · obtain ⟨o5, hs5, ⟨t5, pu5, l5⟩, ⟨ps, sg, hps, dp, mp, p2, has⟩, y3, hσ⟩ := hP
          subst hσ
          have hi : i < zr.length := by
            have := (List.getElem?_eq_some_iff.mp hx).1
            rw [List.length_map] at this
            exact this
          rw [List.getElem?_map, List.getElem?_eq_getElem hi] at hx
          cases Option.some.inj hx
          have lsg : sg.length = i + 1 := by
            have := congrArg List.length mp
            rw [List.length_map, List.length_cons, List.length_take] at this
            omega
          have lps : ps.length = sg.length := paired_len dp
          show tDrop _ _ [some (.ref p), some (.ref l), y2, some (.str zr[i]), some (.ref b), none] H5
          refine do_app hps (ev_var rfl) fun H6 e6 => do_tup (do_cons (do_ev (ev_var rfl) fun H7 e7 => do_cons (do_op (do_evL (el_lst (vs := [vi 0, vi 1, vi 2, vi 2, vi 1, vi 2]) (ea_cons ev_c (ea_cons ev_c (ea_cons ev_c (ea_cons ev_c (ea_cons ev_c (ea_cons ev_c ea_nil)))))) (by show 6 ≤ 100000; decide)) fun d H8 nd8 e8 hd => do_take (n := 6) (ev_var rfl) ev_c (pu5.ex ((e6.trans e7).trans e8)) (by omega) (by decide) (by decide) fun k H9 hk o9 pu9 => ?_))))
          obtain ⟨dp8, dc8⟩ := (pu5.ex (e6.trans e7)).fresh nd8
          have six6 : ∃ m, [vi 0, vi 1, vi 2, vi 2, vi 1, vi 2][k]? = some (vi m) ∧ m ≤ 2 := by
            have : k = 0 ∨ k = 1 ∨ k = 2 ∨ k = 3 ∨ k = 4 ∨ k = 5 := by omega
            rcases this with rfl | rfl | rfl | rfl | rfl | rfl
            · exact ⟨0, rfl, by decide⟩
            · exact ⟨1, rfl, by decide⟩
            · exact ⟨2, rfl, by decide⟩
            · exact ⟨2, rfl, by decide⟩
            · exact ⟨1, rfl, by decide⟩
            · exact ⟨2, rfl, by decide⟩
          obtain ⟨m, hm, m2⟩ := six6
          refine ⟨d, _, (k : Int), vi m, rfl, rfl, sq_of (o9 _ _ dp8 dc8 hd), atI_nat hm, do_nil ⟨by show 2 ≤ sizeLine; decide, fun r nr => ?_⟩⟩
          have o59 : Off H5 H9 p c := (Off.of_ex ((e6.trans e7).trans e8)).trans o9
          have h9b := o59 _ _ bp bc hps
          have h9s := o59 _ _ sp4 sc4 hs5
          have er := Ex.new (o := .tup [.str zr[i], vi m]) nr
          have et9 := o59.et pu5 (K := K)
          have hrb : r ≠ b := fun z => by
            rw [z, h9b] at nr
            cases nr
          have u1 : ∀ a' tt, SqT K H9 a' tt → SqT K (upd (upd H9 r (.tup [.str zr[i], vi m])) b (.lst (ps.map V.ref ++ [.ref r]))) a' tt := fun a' tt z => sq_updL (x0 := ps.map V.ref) (er _ _ h9b) (ex_t er z)
          refine ⟨b, _, _, rfl, rfl, er _ _ h9b, sz_lt (by rw [List.length_map]; omega), fun b' o' h1 h2 hh => ?_, ?_, ⟨t5 + 1, ?_, by omega⟩, ⟨ps ++ [r], sg ++ [(zr[i], m)], by rw [upd_same, List.map_append]; rfl, dps_snoc (dps_et (fun a' tt z => u1 _ _ (et9 _ _ z)) dp) (sq_updL (x0 := ps.map V.ref) (er _ _ h9b) (st_of upd_same)), ?_, fun d hd => ?_, List.mem_append_left _ has⟩, _, rfl⟩
          · rw [upd_ne (ne_of_none hh nb0)]
            exact ((o5.trans o59).trans (.of_ex er)) b' o' h1 h2 hh
          · rw [upd_ne nslb]
            exact er _ _ h9s
          · exact (pu9.ex er).upd bp bc
          · rw [List.map_append, mp, List.take_add_one, List.getElem?_eq_getElem hi]
            rfl
          · rcases List.mem_append.mp hd with h | h
            · exact p2 d h
            · rw [List.mem_singleton.mp h]
              exact m2
        · obtain ⟨o5, hs5, ⟨t5, pu5, l5⟩, ⟨ps, sg, hps, dp, mp, p2, has⟩, y3, hσ⟩ := hP
          subst hσ
          rw [List.length_map, List.take_length] at mp
          rw [List.length_map] at l5
          have lsg : sg.length = zr.length + 1 := by
            have := congrArg List.length mp
            rw [List.length_map, List.length_cons] at this
            exact this
          have nmd : ∀ d ∈ sg, Name d.1 ∧ d.2 ≤ 2 := fun d hd => ⟨nz d.1 (by rw [← mp]; exact List.mem_map_of_mem hd), p2 d hd⟩
          refine do_ret (do_cb (do_cons (do_cons (do_ev (ev_var rfl) fun I1 f1 => do_cons (do_ev (ev_var rfl) fun I2 f2 => do_nil ⟨p, c, t5, b, ps, sg, rfl, pu5.ex (f1.trans f2), by omega, (f1.trans f2) _ _ hps, bp, bc, dps_et (Dw.Ex.et (f1.trans f2)) dp, nmd, by omega, fun l9 qs sg9 t9 H9 nl9 o9 pu9 lt9 hq9 dp9 pm => do_nil ⟨l9, _, rfl, sq_of hq9, fun r ob nr od => ?_⟩⟩)))))
          have er := Ex.new (o := .frz ob (.tup (qs.map V.ref))) nr
          have pl := pm.length_eq
          refine q _ sg9 t9 _ ((o5.trans (.of_ex (f1.trans f2))).trans (o9.trans (.of_ex er))) (pu9.ex er) (by omega) ⟨r, ob, qs, rfl, upd_same, od, paired_imp (fun _ _ z => ex_t er z) dp9⟩ ⟨by omega, by omega, fun d hd => (nmd d (pm.mem_iff.mp hd)).1, fun d hd => (nmd d (pm.mem_iff.mp hd)).2, ?_⟩ (by omega) ⟨z0, pm.mem_iff.mpr has⟩
          have : (sg9.map (·.1)).Perm (sg.map (·.1)) := pm.map _
          rw [mp] at this
          exact this.nodup_iff.mpr nd
end
end K11
end
section
namespace K11
open PySem PySem.Spec PyProof.Rows L2 Evl RZ Dw M20
/-- the signs of a text -/
def lts (z : Str) : List Str := z.cps.toList.map one
theorem lts_at {z : Str} {i c : Nat} (h : z.cps[i]? = some c) : (one c) ∈ lts z := List.mem_map.mpr ⟨c, by
  obtain ⟨hi, e⟩ := Array.getElem?_eq_some_iff.mp h
  rw [← e]
  exact Array.getElem_mem_toList hi, rfl⟩
section
variable {P : Program} {w : World} {K : PySem.W.Frag} {mg : Str → Option Value} {base : Heap} {σ : L2.St} {H H' : Hp} {p c : Addr} {n m k t : Nat} {v : V} {te : TE}
theorem do_leafT {t1 t2 : TT} {ta tb tc : TE} {d : Nat} {b2 : Bool} {E : XK} {R : Bool → Hp → Prop} (h1 : EvT t1 σ H (decide (d = 0))) (h2 : EvT t2 σ H b2) (ha : ∀ H1, Ex H H1 → Ev ta σ H1 (.ref p)) (hb : ∀ H1, Ex H H1 → Ev tb σ H1 (vi 4)) (hc : ∀ H1, Ev tc σ H1 (.int 0)) (pu : Pur H p c t) (lt : t ≤ 90000)
    (h : ∀ b H2 t2, Off H H2 p c → Pur H2 p c t2 → t2 ≤ t + 1 → (d = 0 → t2 = t) → (b = false → 1 ≤ d ∧ b2 = false) → R b H2) : tOr t1 (tOr t2 (tTest (tOp rEq (tCall sp_take [] E (tCons ta (tCons tb tNil))) tc))) σ H R :=
  h1 H (Ex.refl _) _ fun H1 e1 => by
    by_cases z : d = 0
    · rw [decide_eq_true z]
      exact iteT (h true H1 t (.of_ex e1) (pu.ex e1) (by omega) (fun _ => rfl) (fun b => by cases b))
    · rw [decide_eq_false z]
      refine iteF (h2 H1 e1 _ fun H2 e2 => ?_)
      cases b2 with
      | true => exact iteT (h true H2 t (.of_ex (e1.trans e2)) (pu.ex (e1.trans e2)) (by omega) (fun _ => rfl) (fun b => by cases b))
      | false =>
        refine iteF (do_test (do_op (do_take (ha H2 (e1.trans e2)) (hb H2 (e1.trans e2)) (pu.ex (e1.trans e2)) (by omega) (by decide) (by decide) fun k H3 hk o3 pu3 => do_ev (hc H3) fun H4 e4 => rv_eq rfl H4 (Ex.refl _) _ fun H5 e5 => ⟨_, rfl, ?_⟩)))
        exact h _ H5 (t + 1) (((Off.of_ex (e1.trans e2)).trans o3).trans (.of_ex (e4.trans e5))) (pu3.ex (e4.trans e5)) (by omega) (fun e => by omega) (fun _ => ⟨by omega, rfl⟩)
/-- bare terms in a list -/
structure Bare (K : PySem.W.Frag) (H : Hp) (sg : List (Str × Nat)) (ls : List Str) (ts : List Tm) (us : List V) : Prop where
  tms : TmsV K H ts us
  ok : ∀ t ∈ ts, t.ok sg ∧ t.sz = 1 ∧ t.hgt ≤ 1 ∧ ∀ x ∈ t.ls, x ∈ ls
theorem Bare.et {sg : List (Str × Nat)} {ls : List Str} {ts : List Tm} {us : List V} (e : ET K H H') (h : Bare K H sg ls ts us) : Bare K H' sg ls ts us := ⟨h.tms.et e, h.ok⟩
theorem Bare.nil {sg : List (Str × Nat)} {ls : List Str} : Bare K H sg ls [] [] := ⟨by rw [TmsV], fun _ z => (nomatch z)⟩
theorem Bare.snoc {sg : List (Str × Nat)} {ls : List Str} {ts : List Tm} {us : List V} {t : Tm} {v : V} (h : Bare K H sg ls ts us) (tv : TmV K H t v) (ok : t.ok sg ∧ t.sz = 1 ∧ t.hgt ≤ 1 ∧ ∀ x ∈ t.ls, x ∈ ls) : Bare K H sg ls (ts ++ [t]) (us ++ [v]) := ⟨h.tms.snoc tv, fun t ht => by
  rcases List.mem_append.mp ht with z | z
  · exact h.ok t z
  · rw [List.mem_singleton.mp z]
    exact ok⟩
theorem Bare.app {sg : List (Str × Nat)} {ls : List Str} {ts ts2 : List Tm} {us us2 : List V} (h : Bare K H sg ls ts us) (h2 : Bare K H sg ls ts2 us2) : Bare K H sg ls (ts ++ ts2) (us ++ us2) := ⟨h.tms.app h2.tms, fun t ht => (List.mem_append.mp ht).elim (h.ok t) (h2.ok t)⟩
theorem bare_deed {sg : List (Str × Nat)} {ls : List Str} {z : Str} (h : (z, 0) ∈ sg) : (Tm.deed z []).ok sg ∧ (Tm.deed z []).sz = 1 ∧ (Tm.deed z []).hgt ≤ 1 ∧ ∀ x ∈ (Tm.deed z []).ls, x ∈ ls := by
  refine ⟨?_, ?_, ?_, ?_⟩
  · rw [Tm.ok, oks]
    exact ⟨h, trivial⟩
  · rw [Tm.sz, szs]
  · rw [Tm.hgt, hgts]
    exact Nat.le_refl _
  · intro x hx
    rw [Tm.ls, lss] at hx
    cases hx
def sp_lterm (K : PySem.W.Frag) (n : Nat) : Sp := fun vs H Q _ => ∃ (p c : Addr) (t d : Nat) (sv : V) (sg : List (Str × Nat)) (z : Str), vs = [.ref p, sv, .str z, vi d] ∧ d < n ∧ Pur H p c t ∧ t + 4 * 2 ^ d ≤ 80000 ∧ FSig K H sv sg ∧ SigOk sg ∧ (∃ y, (y, 0) ∈ sg) ∧ z.length ≤ 6 ∧ (∀ x ∈ lts z, x ∈ vars) ∧
  ∀ v tm t' H', Off H H' p c → Pur H' p c t' → t' + 2 ≤ t + 4 * 2 ^ d → TmV K H' tm v → tm.ok sg → tm.sz + 1 ≤ 2 ^ (d + 1) → tm.hgt ≤ d + 1 → (∀ x ∈ tm.ls, x ∈ lts z) → Q v H'
theorem c_lterm (T : Txt mg) (D : Df K mg "_law_term" s__law_term ["_law_pile_here", "_law_sig", "_law_letters_here", "_law_depth"]) (c_take : Cl P w K mg base 2 "_law_take" sp_take) : ∀ n : Nat, Cl P w K mg base (n + 3) "_law_term" (sp_lterm K n)
  | 0 => cl_of (k := 2) D sc__law_term (fun vs H Q E h => by
      obtain ⟨p, c, t, d, sv, sg, z, rfl, _⟩ := h
      rfl) (fun f cdv A outer s H vs Q E hr h => by
      obtain ⟨p, c, t, d, sv, sg, z, _, bad, _⟩ := h
      exact absurd bad (Nat.not_lt_zero _))
  | n + 1 => by
    have c_term := c_lterm T D c_take n
    refine cl_of (k := n + 3) D sc__law_term (fun vs H Q E h => ?_) (fun f cdv A outer s H vs Q E hr h => ?_)
    · obtain ⟨p, c, t, d, sv, sg, z, rfl, _⟩ := h
      rfl
    · obtain ⟨p, c, t, d, sv, sg, z, rfl, dn, pu, big, hG, so, bare, z6, sub, q⟩ := h
      refine ⟨_, (pss_cons (ps_set (i := 4) sc__law_term.nd rfl (.inl rfl) (pe_op op_cat (pe_lc (own := [("_law_x", 8)]) (g := (gName 8)) (by rfl) sc__law_term.nd (pi_str (pv 2)) (blkOk_by (own := [("_law_x", 8)]) (N := ["_law_pile_here", "_law_sig", "_law_letters_here", "_law_depth", "_law_ends", "_law_deeds", "_law_word_here", "_law_places", "_law_x", "_law_deed", "_law_k"]) (sc := defScope s__law_term) (by decide +kernel)) (fun _ _ _ _ _ => (pg_name (i := 8) sc__law_term.nd rfl (.inl rfl))) (fun _ _ _ _ _ => pts_nil) (fun _ _ _ _ _ => (pe_tup (pa_cons pe_str (pa_cons (pv 8) pa_nil))))) (pe_lc (own := [("_law_word_here", 6), ("_law_places", 7)]) (g := (gTup _ 2 (gCons (gName 6) (gCons (gName 7) gNil)))) (by rfl) sc__law_term.nd (pi_tup (pv 1)) (blkOk_by (own := [("_law_word_here", 6), ("_law_places", 7)]) (N := ["_law_pile_here", "_law_sig", "_law_letters_here", "_law_depth", "_law_ends", "_law_deeds", "_law_word_here", "_law_places", "_law_x", "_law_deed", "_law_k"]) (sc := defScope s__law_term) (by decide +kernel)) (fun _ _ _ _ _ => (pg_tup (by rfl) (pgs_cons (pg_name (i := 6) sc__law_term.nd rfl (.inl rfl)) (pgs_cons (pg_name (i := 7) sc__law_term.nd rfl (.inl rfl)) pgs_nil)))) (fun _ _ _ _ _ => (pts_one (pt_cmpR op_eq (pv 7) pe_int (nomark _)))) (fun _ _ _ _ _ => (pe_tup (pa_cons pe_str (pa_cons (pv 6) (pa_cons (pe_tup pa_nil) pa_nil))))))))
      (pss_cons (ps_setLc (i := 5) (own := [("_law_deed", 9)]) (g := (gName 9)) (by rfl) sc__law_term.nd rfl rfl (sw_true rfl rfl rfl (by decide +kernel)) (pi_tup (pv 1)) (blkOk_by (own := [("_law_deed", 9)]) (N := ["_law_pile_here", "_law_sig", "_law_letters_here", "_law_depth", "_law_ends", "_law_deeds", "_law_word_here", "_law_places", "_law_x", "_law_deed", "_law_k"]) (sc := defScope s__law_term) (by decide +kernel)) (fun _ _ _ _ _ => (pg_name (i := 9) sc__law_term.nd rfl (.inl rfl))) (fun _ _ _ _ _ => (pts_one (pt_cmpR op_gt (pe_ix (ix_tupK K) (pv 9) pe_int (fun _ _ => rfl)) pe_int (nomark _)))) (fun _ _ _ _ _ => (pv 9)))
      (pss_cons (ps_if (PW.pt (pw_or (pt_cmpR op_eq (pv 3) pe_int (nomark _)) (pw_or (pt_cmpR (op_eqD hr.units) (pv 5) (pe_lst pa_nil) (nomark _)) (pw_or1 (pt_cmpR op_eq (pe_cl c_take hr (by first | decide | omega) (by rfl) (pa_cons (pv 0) (pa_cons pe_int pa_nil))) pe_int (nomark _))))))
        (pss_one (ps_ret (pe_ix ix_list (pv 4) (pe_cl c_take hr (by first | decide | omega) (by rfl) (pa_cons (pv 0) (pa_cons (pe_callB call_len_seq (by rfl) T.z_len PySem.boot_len (pa_cons (pv 4) pa_nil)) pa_nil))) (fun _ _ => rfl))))
        pss_nil)
      (pss_cons (ps_asg (pe_ix ix_list (pv 5) (pe_cl c_take hr (by first | decide | omega) (by rfl) (pa_cons (pv 0) (pa_cons (pe_callB call_len_seq (by rfl) T.z_len PySem.boot_len (pa_cons (pv 5) pa_nil)) pa_nil))) (fun _ _ => rfl)) (pg_tup (by rfl) (pgs_cons (pg_name (i := 6) sc__law_term.nd rfl (.inl rfl)) (pgs_cons (pg_name (i := 7) sc__law_term.nd rfl (.inl rfl)) pgs_nil))))
      (pss_one (ps_ret (pe_tup (pa_cons pe_str (pa_cons (pv 6) (pa_cons (pe_callTy call_tuple_of (by rfl) T.z_tuple (by decide +kernel) (pa_cons (pe_lc (own := [("_law_k", 10)]) (g := (gName 10)) (by rfl) sc__law_term.nd (pi_range1 (by rfl) T.z_range (pa_cons (pv 7) pa_nil)) (blkOk_by (own := [("_law_k", 10)]) (N := ["_law_pile_here", "_law_sig", "_law_letters_here", "_law_depth", "_law_ends", "_law_deeds", "_law_word_here", "_law_places", "_law_x", "_law_deed", "_law_k"]) (sc := defScope s__law_term) (by decide +kernel)) (fun _ _ _ _ _ => (pg_name (i := 10) sc__law_term.nd rfl (.inl rfl))) (fun _ _ _ _ _ => pts_nil) (fun _ _ _ _ _ => (pe_cl c_term hr (by first | decide | omega) (by rfl) (pa_cons (pv 0) (pa_cons (pv 1) (pa_cons (pv 2) (pa_cons (pe_op op_sub (pv 3) pe_int) pa_nil))))))) pa_nil)) pa_nil)))))))))), ?_⟩
      have pow1 : 1 ≤ 2 ^ d := Nat.pow_pos (by decide)
      obtain ⟨sa, so1, ps, rfl, hsa, sod, prs⟩ := id hG
      have sqS : SqT K H sa (ps.map V.ref) := .inl (.inr ⟨so1, hsa⟩)
      have lps := paired_len prs
      have sl1 := so.l1
      have sl4 := so.l4
      -- the variables
      refine do_set (do_op ?_)
      refine do_lcIt (walk_str (z := z)) (fun R r => w_str (ev_var rfl) H (Ex.refl _) R r) (fun D2 j H' => H D2 = none ∧ Ex H H' ∧ ∃ (ts2 : List Tm) (us2 : List V), H' D2 = some (.lst us2) ∧ Bare K H' sg (lts z) ts2 us2 ∧ ts2.length = j)
        (fun D2 H5 e5 nD2 => ⟨fresh_back e5 nD2, e5.trans (Ex.new nD2), [], [], upd_same, .nil, rfl⟩) (fun _ _ _ _ _ => trivial) (fun D2 j x H5 H6 hj hP y => ?_) (fun D2 H5 hP => ?_)
      · obtain ⟨nD2, e5, ts2, us2, hus2, br2, lts2⟩ := hP
        obtain ⟨rfl, ch, hch, rfl⟩ := y
        have ltu2 := br2.tms.len
        have mem := lts_at hch
        have zz : z.cps.size ≤ 6 := z6
        refine ⟨rfl, iteT (do_tup (do_cons (do_ev ev_c fun H7 e7 => do_cons (do_ev (ev_var rfl) fun H8 e8 => do_nil ⟨by show 2 ≤ sizeLine; decide, fun r2 n2 => ?_⟩))))⟩
        have x9 : Ex H6 (upd H8 r2 (.tup [.str "var", .str (one ch)])) := (e7.trans e8).trans (Ex.new n2)
        have h2 : (upd H8 r2 (.tup [.str "var", .str (one ch)])) r2 = some (.tup [.str "var", .str (one ch)]) := upd_same
        generalize upd H8 r2 (.tup [.str "var", .str (one ch)]) = H9 at *
        have et9 : ET K H9 (upd H9 D2 (.lst (us2 ++ [.ref r2]))) := ET.refl.upd (x9 _ _ hus2)
        exact ⟨us2, x9 _ _ hus2, sz_lt (by omega), nD2, (e5.trans x9).mut nD2, ts2 ++ [.var (one ch)], us2 ++ [.ref r2], upd_same, (br2.et (ET.trans (Dw.Ex.et x9) et9)).snoc (tmv_var (et9 _ _ (st_of h2))) ⟨by rw [Tm.ok]; exact sub _ mem, by rw [Tm.sz], by rw [Tm.hgt]; exact Nat.zero_le _, fun x hx => by rw [Tm.ls, List.mem_singleton] at hx; rw [hx]; exact mem⟩, by rw [List.length_append, lts2]; rfl⟩
      obtain ⟨nD2, e5, ts2, us2, hus2, br2, lts2⟩ := hP
      -- the deeds of no places
      refine do_lcG walk_tup (fun R r => w_tup (K := K) (xs := ps.map V.ref) (ev_var rfl) (ex_t e5 sqS) H5 (Ex.refl _) R r) (fun D j H' => H5 D = none ∧ Ex H5 H' ∧ ∃ (ts : List Tm) (us : List V), H' D = some (.lst us) ∧ Bare K H' sg (lts z) ts us ∧ ts.length ≤ j ∧ ∀ i y, i < j → sg[i]? = some (y, 0) → 1 ≤ ts.length)
        (fun D H3 e3 nD => ⟨fresh_back e3 nD, e3.trans (Ex.new nD), [], [], upd_same, .nil, Nat.le_refl _, fun i y hi _ => absurd hi (Nat.not_lt_zero _)⟩) (fun D j H3 _ h => ex_t (e5.trans h.2.1) sqS) (fun D j x H3 H4 hj hP y => ?_) (fun D H3 hP => ?_)
      · obtain ⟨nD, e3, ts, us, hus, br, lts1, hsm⟩ := hP
        obtain ⟨rfl, hx⟩ := y
        rw [List.length_map] at hj
        obtain ⟨r, er, hr'⟩ : ∃ r, ps[j]? = some r ∧ x = .ref r := by
          rw [List.getElem?_map, List.getElem?_eq_getElem hj] at hx
          exact ⟨_, List.getElem?_eq_getElem hj, (Option.some.inj hx).symm⟩
        subst hr'
        obtain ⟨dd, ed, hdd⟩ := paired_at prs er
        have ltu := br.tms.len
        refine ⟨r, _, rfl, ex_t (e5.trans e3) hdd, rfl, _, _, rfl, _, _, rfl, rfl, rfl, ?_⟩
        refine et_test (ev_op (ev_var rfl) ev_c (rv_eq rfl)) _ (Ex.refl _) _ fun H6 e6 => ?_
        by_cases p0 : dd.2 = 0
        · rw [show decide (vi dd.2 = V.int 0) = true from decide_eq_true (by rw [p0]; rfl)]
          refine iteT (do_tup (do_cons (do_ev ev_c fun H7 e7 => do_cons (do_ev (ev_var rfl) fun H8 e8 => do_cons (do_tup (do_nil ⟨Nat.zero_le _, fun r1 n1 => do_nil ⟨by show 3 ≤ sizeLine; decide, fun r2 n2 => ?_⟩⟩))))))
          have e68 := (e6.trans e7).trans e8
          have x9 : Ex H4 (upd (upd H8 r1 (.tup [])) r2 (.tup [.str "deed", .str dd.1, .ref r1])) := (e68.trans (Ex.new n1)).trans (Ex.new n2)
          have h2 : (upd (upd H8 r1 (.tup [])) r2 (.tup [.str "deed", .str dd.1, .ref r1])) r2 = some (.tup [.str "deed", .str dd.1, .ref r1]) := upd_same
          have h1 : (upd (upd H8 r1 (.tup [])) r2 (.tup [.str "deed", .str dd.1, .ref r1])) r1 = some (.tup []) := Ex.new n2 _ _ upd_same
          generalize upd (upd H8 r1 (.tup [])) r2 (.tup [.str "deed", .str dd.1, .ref r1]) = H9 at *
          have et9 : ET K H9 (upd H9 D (.lst (us ++ [.ref r2]))) := ET.refl.upd (x9 _ _ hus)
          have dm : (dd.1, 0) ∈ sg := by
            rw [show (dd.1, 0) = dd by rw [← p0]]
            exact List.mem_of_getElem? ed
          refine ⟨us, x9 _ _ hus, sz_lt (by omega), nD, (e3.trans x9).mut nD, ts ++ [.deed dd.1 []], us ++ [.ref r2], upd_same, (br.et (ET.trans (Dw.Ex.et x9) et9)).snoc (tmv_deed (et9 _ _ (st_of h2)) (et9 _ _ (st_of h1)) (by rw [TmsV])) (bare_deed dm), by rw [List.length_append]; show ts.length + 1 ≤ j + 1; omega, fun i y hi _ => by rw [List.length_append]; show 1 ≤ ts.length + 1; omega⟩
        · rw [show decide (vi dd.2 = V.int 0) = false from decide_eq_false (fun z => p0 (by have := V.int.inj z; omega))]
          refine iteF ⟨nD, e3.trans e6, ts, us, e6 _ _ hus, br.et (Dw.Ex.et e6), by omega, fun i y hi hy => ?_⟩
          by_cases ij : i < j
          · exact hsm i y ij hy
          · have : i = j := by omega
            rw [this, ed] at hy
            exact absurd (congrArg (·.2) (Option.some.inj hy)) p0
      obtain ⟨nD, e3, ts, us, hus, br, lts1, hsm⟩ := hP
      rw [List.length_map] at lts1 hsm
      have some1 : 1 ≤ ts.length := by
        obtain ⟨y, hy⟩ := bare
        obtain ⟨i, hi, e⟩ := List.mem_iff_getElem.mp hy
        exact hsm i y (by omega) (by rw [List.getElem?_eq_getElem hi, e])
      have ltu := br.tms.len
      have ltu2 := br2.tms.len
      refine ⟨D2, D, us2, us, rfl, rfl, e3 _ _ hus2, hus, sz_of (by have : z.cps.size ≤ 6 := z6; omega), fun el nel => ?_⟩
      have xn := Ex.new (o := .lst (us2 ++ us)) nel
      have x03 : Ex H (upd H3 el (.lst (us2 ++ us))) := (e5.trans e3).trans xn
      have hel : (upd H3 el (.lst (us2 ++ us))) el = some (.lst (us2 ++ us)) := upd_same
      have brA : Bare K (upd H3 el (.lst (us2 ++ us))) sg (lts z) (ts2 ++ ts) (us2 ++ us) := (br2.et (Dw.Ex.et (e3.trans xn))).app (br.et (Dw.Ex.et xn))
      have nelH : H el = none := fresh_back (e5.trans e3) nel
      obtain ⟨elp, elc⟩ := pu.fresh nelH
      generalize upd H3 el (.lst (us2 ++ us)) = H6 at *
      have leA : (us2 ++ us).length ≤ 11 := by
        rw [List.length_append]
        have : z.cps.size ≤ 6 := z6
        omega
      have leB : 1 ≤ (us2 ++ us).length := by
        rw [List.length_append]
        omega
      show tSeq _ _ _ [some (.ref p), some (.ref sa), some (.str z), some (vi d), some (.ref el), none, none, none, none, none, none] H6
      -- the deeds of places
      refine do_set (do_lcG walk_tup (fun R r => w_tup (K := K) (xs := ps.map V.ref) (ev_var rfl) (ex_t x03 sqS) H6 (Ex.refl _) R r) (fun D j H' => H6 D = none ∧ Ex H6 H' ∧ ∃ (qs : List Addr) (sd : List (Str × Nat)), H' D = some (.lst (qs.map V.ref)) ∧ DPs K H' qs sd ∧ (∀ x ∈ sd, x ∈ sg ∧ 0 < x.2) ∧ sd.length ≤ j)
        (fun D H7 e7 nD => ⟨fresh_back e7 nD, e7.trans (Ex.new nD), [], [], upd_same, .nil, fun _ z => (nomatch z), Nat.le_refl _⟩) (fun D j H7 _ h => ex_t (x03.trans h.2.1) sqS) (fun D j x H7 H8 hj hP y => ?_) (fun D H7 hP => ?_))
      · obtain ⟨nD, e7, qs, sd, hqs, dq, msd, lsd⟩ := hP
        obtain ⟨rfl, hx⟩ := y
        rw [List.length_map] at hj
        obtain ⟨r, er, hr'⟩ : ∃ r, ps[j]? = some r ∧ x = .ref r := by
          rw [List.getElem?_map, List.getElem?_eq_getElem hj] at hx
          exact ⟨_, List.getElem?_eq_getElem hj, (Option.some.inj hx).symm⟩
        subst hr'
        obtain ⟨dd, ed, hdd⟩ := paired_at prs er
        have lq : qs.length = sd.length := paired_len dq
        refine ⟨rfl, ?_⟩
        refine et_test (ev_op (ev_op (ev_var rfl) ev_c (rv_ixT (K := K) (ex_t (x03.trans e7) hdd) (atI_vi (k := 1) rfl))) ev_c rv_I0) _ (Ex.refl _) _ fun H9 e9 => ?_
        by_cases p0 : 0 < dd.2
        · rw [show decide (((dd.2 : Nat) : Int) > 0) = true from decide_eq_true (by omega)]
          refine iteT (do_ev (ev_var rfl) fun H10 e10 => ?_)
          have x10 := e9.trans e10
          have et9 : ET K H10 (upd H10 D (.lst (qs.map V.ref ++ [.ref r]))) := ET.refl.upd (x10 _ _ hqs)
          refine ⟨_, x10 _ _ hqs, sz_lt (by rw [List.length_map]; omega), nD, (e7.trans x10).mut nD, qs ++ [r], sd ++ [dd], by rw [upd_same, List.map_append]; rfl, dps_snoc (dps_et (ET.trans (Dw.Ex.et x10) et9) dq) (et9 _ _ (ex_t (x03.trans (e7.trans x10)) hdd)), fun x hx => ?_, by rw [List.length_append]; show sd.length + 1 ≤ j + 1; omega⟩
          rcases List.mem_append.mp hx with h | h
          · exact msd x h
          · rw [List.mem_singleton.mp h]
            exact ⟨List.mem_of_getElem? ed, p0⟩
        · rw [show decide (((dd.2 : Nat) : Int) > 0) = false from decide_eq_false (by omega)]
          exact iteF ⟨nD, e7.trans e9, qs, sd, e9 _ _ hqs, dps_et (Dw.Ex.et e9) dq, msd, by omega⟩
      obtain ⟨nD, e7, qs, sd, hqs, dq, msd, lsd⟩ := hP
      rw [List.length_map] at lsd
      have lq : qs.length = sd.length := paired_len dq
      have x07 := x03.trans e7
      have nDH : H D = none := fresh_back x03 nD
      obtain ⟨Dp, Dc⟩ := pu.fresh nDH
      have hel7 := e7 _ _ hel
      have brA7 := brA.et (Dw.Ex.et e7)
      have nmd : ∀ x ∈ sd, Name x.1 ∧ x.2 ≤ 2 := fun x hx => ⟨so.nm x (msd x hx).1, so.pl x (msd x hx).1⟩
      show tSeq _ _ _ [some (.ref p), some (.ref sa), some (.str z), some (vi d), some (.ref el), some (.ref D), none, none, none, none, none] H7
      refine do_when (do_leafT (d := d) (b2 := (sd.map dpr).isEmpty) (et_is (et_test (ev_op (ev_var rfl) ev_c (rv_eq rfl))) (by
          show decide (V.int (d : Int) = V.int 0) = decide (d = 0)
          exact decide_eq_decide.mpr ⟨fun z => by
            injection z with z
            omega, fun z => by rw [z]; rfl⟩)) (et_test (ev_opL (ev_var rfl) (el_lst ea_nil (by show 0 ≤ 100000; decide)) (fun r0 H8 hr0 e8 => fun H9 e9 Q4 q4 => ⟨.list (sd.map dpr), .list [], .lst (sq_of ((e8.trans e9) _ _ hqs)) (dps_dp (dps_et (Dw.Ex.et (e8.trans e9)) dq)), .lst (sq_of (e9 _ _ hr0)) .nil, shapedB (gd_pairs nmd (by omega)) (by decide), by decide +kernel, by
            have z := q4 H9 (Ex.refl _)
            cases sd with
            | nil => exact z
            | cons a b => exact z⟩))) (fun H1 _ => ev_var rfl) (fun H1 _ => ev_c) (fun H1 => ev_c) (pu.ex x07) (by omega) fun b H8 t2 o8 pu8 lt8 d0 bd => ?_)
      have o08 : Off H H8 p c := (Off.of_ex x07).trans o8
      have hel8 := o8 _ _ elp elc hel7
      have brA8 := brA7.et (o8.et (pu.ex x07))
      have p2 : 2 ≤ 2 ^ (d + 1) := by rw [Nat.pow_succ]; omega
      cases b with
      | true =>
        refine iteT (do_ret (do_op (do_ev (ev_var rfl) fun H9 e9 => do_take (n := (us2 ++ us).length) (ev_var rfl) (ev_len (K := K) (ev_var rfl) (sq_of (e9 _ _ hel8))) (pu8.ex e9) (by omega) leB (by omega) fun k H10 hk o10 pu10 => ?_)))
        have o910 : Off H8 H10 p c := (Off.of_ex e9).trans o10
        have hk' : (us2 ++ us)[k]? = some (us2 ++ us)[k] := List.getElem?_eq_getElem hk
        obtain ⟨tm, htm, tv⟩ := brA8.tms.get hk'
        have okm := brA8.ok tm (List.mem_of_getElem? htm)
        refine ⟨el, us2 ++ us, (k : Int), _, rfl, rfl, sq_of (o910 _ _ elp elc hel8), atI_nat hk', ?_⟩
        refine q _ tm (t2 + 1) H10 (o08.trans o910) pu10 ?_ (tv.et (o910.et pu8)) okm.1 (by rw [okm.2.1]; exact p2) (Nat.le_trans okm.2.2.1 (by omega)) okm.2.2.2
        by_cases z : d = 0
        · subst z
          rw [d0 rfl]
          show t + 1 + 2 ≤ t + 4 * 1
          omega
        · have : 2 ≤ 2 ^ d := by
            have : 2 ^ 1 ≤ 2 ^ d := Nat.pow_le_pow_right (by decide) (by omega)
            exact this
          omega
      | false =>
        refine iteF ?_
        obtain ⟨d1, b2⟩ := bd rfl
        have sd1 : 1 ≤ sd.length := by
          cases sd with
          | nil => cases b2
          | cons x r => rw [List.length_cons]; omega
        obtain ⟨d', rfl⟩ : ∃ d', d = d' + 1 := ⟨d - 1, by omega⟩
        have pd : 2 ^ (d' + 1) = 2 * 2 ^ d' := by rw [Nat.pow_succ, Nat.mul_comm]
        have pd2 : 2 ^ (d' + 1 + 1) = 2 * 2 ^ (d' + 1) := by rw [Nat.pow_succ, Nat.mul_comm]
        have q1 : 1 ≤ 2 ^ d' := Nat.pow_pos (by decide)
        have hqs8 := o8 _ _ Dp Dc hqs
        have dq8 := dps_et (o8.et (pu.ex x07)) dq
        refine do_setG (do_op (do_ev (ev_var rfl) fun H9 e9 => do_take (n := qs.length) (ev_var rfl) (ev_is (ev_len (K := K) (ev_var rfl) (sq_of (e9 _ _ hqs8))) (by rw [List.length_map])) (pu8.ex e9) (by omega) (by omega) (by omega) fun k H10 hk o10 pu10 => ?_))
        have o810 : Off H8 H10 p c := (Off.of_ex e9).trans o10
        obtain ⟨dd, ed, hdd⟩ := paired_at dq8 (List.getElem?_eq_getElem hk)
        have memd : dd ∈ sg := (msd dd (List.mem_of_getElem? ed)).1
        have pl2 : dd.2 ≤ 2 := so.pl _ memd
        refine ⟨D, qs.map V.ref, (k : Int), .ref qs[k], rfl, rfl, sq_of (o810 _ _ Dp Dc hqs8), atI_nat (by rw [List.getElem?_map, List.getElem?_eq_getElem hk]; rfl), ?_⟩
        refine ⟨qs[k], _, rfl, o810.et pu8 _ _ hdd, rfl, _, _, rfl, _, _, rfl, rfl, ?_⟩
        show tRet _ _ [some (.ref p), some (.ref sa), some (.str z), some (vi (d' + 1)), some (.ref el), some (.ref D), some (.str dd.1), some (vi dd.2), none, none, none] H10
        refine do_ret (do_tup (do_cons (do_ev ev_c fun H11 e11 => do_cons (do_ev (ev_var rfl) fun H12 e12 => do_cons (do_cb (do_cons ?_))))))
        have e1012 := e11.trans e12
        have pu12 := pu10.ex e1012
        have o012 : Off H H12 p c := (o08.trans o810).trans (.of_ex e1012)
        have hG12 : FSig K H12 (.ref sa) sg := hG.off pu o012
        refine do_lcIt walk_range (fun R r => w_rng (n := dd.2) (ea_cons (ev_var rfl) ea_nil) (by omega) H12 (Ex.refl _) R r) (fun D j H' => H12 D = none ∧ Off H12 H' p c ∧ (∃ t', Pur H' p c t' ∧ t' + 2 * j ≤ t2 + 1 + j * (4 * 2 ^ d')) ∧ ∃ (ts : List Tm) (us : List V), H' D = some (.lst us) ∧ TmsV K H' ts us ∧ ts.length = j ∧ (∀ t ∈ ts, t.ok sg ∧ t.hgt ≤ d' + 1 ∧ t.sz + 1 ≤ 2 ^ (d' + 1) ∧ ∀ x ∈ t.ls, x ∈ lts z) ∧ szs ts + j ≤ j * 2 ^ (d' + 1))
          (fun D H13 e13 nD => ⟨fresh_back e13 nD, .of_ex (e13.trans (Ex.new nD)), ⟨_, pu12.ex (e13.trans (Ex.new nD)), by omega⟩, [], [], upd_same, by rw [TmsV], rfl, fun _ z => (nomatch z), by rw [szs]; omega⟩) (fun _ _ _ _ _ => trivial) (fun D j x H13 H14 hj hP y => ?_) (fun D H13 hP => ?_)
        · obtain ⟨nD, o13, ⟨t13, pu13, lt13⟩, ts, us, hus, tms, lts, okts, sts⟩ := hP
          obtain ⟨rfl, rfl⟩ := y
          obtain ⟨Dp, Dc⟩ := pu12.fresh nD
          have ltu := tms.len
          have j2 : j < 2 := by omega
          have bnd : t13 + 4 * 2 ^ d' ≤ 80000 ∧ t13 ≤ t2 + 1 + 4 * 2 ^ d' := by
            have : j = 0 ∨ j = 1 := by omega
            rcases this with e | e <;> subst e <;> omega
          refine ⟨rfl, iteT (do_cons (do_ev (ev_var rfl) fun H15 e15 => do_cons (do_ev (ev_var rfl) fun H16 e16 => do_cons (do_ev (ev_var rfl) fun H17 e17 => do_cons (do_ev (v := vi d') (ev_is (ev_subM (a := d' + 1) (b := 1) (ev_var rfl) ev_c (by omega)) rfl) fun H18 e18 => do_nil ?_)))))⟩
          have e1418 := ((e15.trans e16).trans e17).trans e18
          have o1218 : Off H12 H18 p c := o13.trans (.of_ex e1418)
          refine ⟨p, c, t13, d', .ref sa, sg, z, rfl, by omega, pu13.ex e1418, bnd.1, hG12.off pu12 o1218, so, bare, z6, sub, fun v tm t19 H19 o19 pu19 lt19 tv okt szt hgt lin => ?_⟩
          have o1419 : Off H14 H19 p c := (Off.of_ex e1418).trans o19
          have hus19 : H19 D = some (.lst us) := o1419 _ _ Dp Dc hus
          have et20 : ET K H19 (upd H19 D (.lst (us ++ [v]))) := ET.refl.upd hus19
          refine ⟨us, hus19, sz_lt (by omega), nD, (o13.trans o1419).upd nD, ⟨t19, pu19.upd Dp Dc, by rw [Nat.add_mul, Nat.one_mul]; omega⟩, ts ++ [tm], us ++ [v], upd_same, (tms.et (ET.trans (o1419.et pu13) et20)).snoc (tv.et et20), by rw [List.length_append, lts]; rfl, fun t ht => ?_, ?_⟩
          · rcases List.mem_append.mp ht with z | z
            · exact okts t z
            · rw [List.mem_singleton.mp z]
              exact ⟨okt, hgt, szt, lin⟩
          · rw [szs_app, szs, szs, Nat.add_mul, Nat.one_mul]
            omega
        · obtain ⟨nD, o13, ⟨t13, pu13, lt13⟩, ts, us, hus, tms, lts9, okts, sts⟩ := hP
          refine ⟨D, us, rfl, .inl ⟨sq_of hus, fun r1 n1 => do_nil ⟨by show 3 ≤ sizeLine; decide, fun r2 n2 => ?_⟩⟩⟩
          have x9 : Ex H13 (upd (upd H13 r1 (.tup us)) r2 (.tup [.str "deed", .str dd.1, .ref r1])) := (Ex.new n1).trans (Ex.new n2)
          have h2 : (upd (upd H13 r1 (.tup us)) r2 (.tup [.str "deed", .str dd.1, .ref r1])) r2 = some (.tup [.str "deed", .str dd.1, .ref r1]) := upd_same
          have h1 : (upd (upd H13 r1 (.tup us)) r2 (.tup [.str "deed", .str dd.1, .ref r1])) r1 = some (.tup us) := Ex.new n2 _ _ upd_same
          generalize upd (upd H13 r1 (.tup us)) r2 (.tup [.str "deed", .str dd.1, .ref r1]) = H14 at *
          have alls : ∀ (ts : List Tm), (∀ t ∈ ts, t.ok sg) → oks sg ts := by
            intro ts
            induction ts with
            | nil => intro _; rw [oks]; trivial
            | cons t ts ih =>
              intro h
              rw [oks]
              exact ⟨h t (List.mem_cons_self ..), ih fun x hx => h x (List.mem_cons_of_mem _ hx)⟩
          refine q _ (.deed dd.1 ts) t13 H14 ((o012.trans o13).trans (.of_ex x9)) (pu13.ex x9) ?_ (tmv_deed (st_of h2) (st_of h1) (tms.et (Dw.Ex.et x9))) ?_ ?_ ?_ ?_
          · have : dd.2 = 0 ∨ dd.2 = 1 ∨ dd.2 = 2 := by omega
            rcases this with e | e | e <;> rw [e] at lt13 <;> omega
          · rw [Tm.ok, lts9]
            exact ⟨memd, alls ts fun t ht => (okts t ht).1⟩
          · rw [Tm.sz, pd2]
            have : dd.2 = 0 ∨ dd.2 = 1 ∨ dd.2 = 2 := by omega
            have q2 : 1 ≤ 2 ^ (d' + 1) := Nat.pow_pos (by decide)
            rcases this with e | e | e <;> rw [e] at sts <;> omega
          · rw [Tm.hgt]
            have := hgts_le fun t ht => (okts t ht).2.1
            omega
          · intro x hx
            rw [Tm.ls] at hx
            obtain ⟨t, ht, hx2⟩ := mem_lss hx
            exact (okts t ht).2.2.2 x hx2
end
end K11
end
section
namespace K11
open PySem PySem.Spec PyProof.Rows L2 Evl RZ Dw M20
/-! ### the parts of a term, with their paths -/
mutual
def Tm.pts : Tm → List (List Nat × Tm)
  | .var x => [([], .var x)]
  | .deed f ts => ([], .deed f ts) :: ptsL 0 ts
def ptsL : Nat → List Tm → List (List Nat × Tm)
  | _, [] => []
  | k, t :: ts => t.pts.map (fun e => (k :: e.1, e.2)) ++ ptsL (k + 1) ts
end
theorem ptsL_app : ∀ (a b : List Tm) (k : Nat), ptsL k (a ++ b) = ptsL k a ++ ptsL (k + a.length) b
  | [], b, k => by
    rw [ptsL]
    rfl
  | t :: a, b, k => by
    rw [List.cons_append, ptsL, ptsL, ptsL_app a b (k + 1), List.append_assoc, List.length_cons, show k + 1 + a.length = k + (a.length + 1) by omega]
theorem ptsL_snoc (a : List Tm) (t : Tm) : ptsL 0 (a ++ [t]) = ptsL 0 a ++ t.pts.map (fun e => (a.length :: e.1, e.2)) := by
  rw [ptsL_app, ptsL, ptsL, List.append_nil, Nat.zero_add]
mutual
theorem pts_len : ∀ t : Tm, t.pts.length = t.sz
  | .var x => by
    rw [Tm.pts, Tm.sz]
    rfl
  | .deed f ts => by
    rw [Tm.pts, Tm.sz, List.length_cons, ptsL_len ts 0, Nat.add_comm]
theorem ptsL_len : ∀ (ts : List Tm) (k : Nat), (ptsL k ts).length = szs ts
  | [], k => by
    rw [ptsL, szs]
    rfl
  | t :: ts, k => by
    rw [ptsL, szs, List.length_append, List.length_map, pts_len t, ptsL_len ts (k + 1)]
end
theorem ptsL_take (ts : List Tm) (i : Nat) : (ptsL 0 (ts.take i)).length ≤ szs ts := by
  rw [ptsL_len]
  have e := szs_app (ts.take i) (ts.drop i)
  rw [List.take_append_drop] at e
  omega
theorem hgt_of : ∀ {ts : List Tm} {t : Tm}, t ∈ ts → t.hgt ≤ hgts ts
  | [], _, h => nomatch h
  | x :: ts, t, h => by
    rw [hgts]
    rcases List.mem_cons.mp h with z | z
    · rw [z]
      exact Nat.le_max_left _ _
    · exact Nat.le_trans (hgt_of z) (Nat.le_max_right _ _)
theorem sz_of_mem : ∀ {ts : List Tm} {t : Tm}, t ∈ ts → t.sz ≤ szs ts
  | [], _, h => nomatch h
  | x :: ts, t, h => by
    rw [szs]
    rcases List.mem_cons.mp h with z | z
    · rw [z]
      omega
    · have := sz_of_mem z
      omega
mutual
theorem path_sz : ∀ (t : Tm) (e : List Nat × Tm), e ∈ t.pts → e.1.length + e.2.sz ≤ t.sz
  | .var x, e, h => by
    rw [Tm.pts, List.mem_singleton] at h
    rw [h]
    exact Nat.le_of_eq (Nat.zero_add _)
  | .deed f ts, e, h => by
    rw [Tm.pts] at h
    rcases List.mem_cons.mp h with z | z
    · rw [z]
      exact Nat.le_of_eq (Nat.zero_add _)
    · have := pathL_sz ts 0 e z
      rw [Tm.sz]
      omega
theorem pathL_sz : ∀ (ts : List Tm) (k : Nat) (e : List Nat × Tm), e ∈ ptsL k ts → e.1.length + e.2.sz ≤ szs ts + 1
  | [], k, e, h => by
    rw [ptsL] at h
    cases h
  | t :: ts, k, e, h => by
    rw [ptsL] at h
    rw [szs]
    rcases List.mem_append.mp h with z | z
    · obtain ⟨e2, h2, rfl⟩ := List.mem_map.mp z
      have := path_sz t e2 h2
      show e2.1.length + 1 + e2.2.sz ≤ _
      omega
    · have := pathL_sz ts (k + 1) e z
      omega
end
theorem path_len {t : Tm} {j : Nat} {path : List Nat} {one : Tm} (h : t.pts[j]? = some (path, one)) : path.length ≤ t.sz := by
  have := path_sz t _ (List.mem_of_getElem? h)
  have e : (path, one).1.length = path.length := rfl
  omega
section
variable {P : Program} {w : World} {K : PySem.W.Frag} {mg : Str → Option Value} {base : Heap} {σ : L2.St} {H H' : Hp} {p c : Addr} {n m k t : Nat} {v : V} {te : TE}
/-- a pair of a path and a part -/
def PtV (K : PySem.W.Frag) (H : Hp) (u : V) (e : List Nat × Tm) : Prop := ∃ (a pa : Addr) (v : V), u = .ref a ∧ SqT K H a [.ref pa, v] ∧ SqT K H pa (e.1.map vi) ∧ TmV K H e.2 v
theorem PtV.et {u : V} {q : List Nat × Tm} (e : ET K H H') (h : PtV K H u q) : PtV K H' u q := let ⟨a, pa, v, z, s, p, tv⟩ := h; ⟨a, pa, v, z, e _ _ s, e _ _ p, tv.et e⟩
def sp_parts (K : PySem.W.Frag) (n : Nat) : Sp := fun vs H Q _ => ∃ (v : V) (tm : Tm), vs = [v] ∧ TmV K H tm v ∧ tm.hgt < n ∧ tm.sz ≤ 1000 ∧ ∀ D us H', Ex H H' → H D = none → H' D = some (.lst us) → Paired (PtV K H') us tm.pts → Q (.ref D) H'
theorem ep_parts {E : XK} {tm : Tm} (h : Ev te σ H v) (tv : TmV K H tm v) (hh : tm.hgt < n) (sz : tm.sz ≤ 1000) : EvP (tCall (sp_parts K n) [] E (tCons te tNil)) σ H (fun u H' => ∃ D us, u = .ref D ∧ H D = none ∧ H' D = some (.lst us) ∧ Paired (PtV K H') us tm.pts) := fun H1 e Q q =>
  ea_cons h ea_nil H1 e _ fun H2 e2 => ⟨v, tm, rfl, tv.ex (e.trans e2), hh, sz, fun D us H3 e3 nD hD pr => q _ H3 (e2.trans e3) ⟨D, us, rfl, fresh_back (e.trans e2) nD, hD, pr⟩⟩
theorem c_parts (T : Txt mg) (D : Df K mg "_law_parts" s__law_parts ["_law_term_here"]) : ∀ n : Nat, Cl P w K mg base (n + 1) "_law_parts" (sp_parts K n)
  | 0 => cl_of (k := 0) D sc__law_parts (fun vs H Q E h => by
      obtain ⟨v, tm, rfl, _⟩ := h
      rfl) (fun f cdv A outer s H vs Q E hr h => by
      obtain ⟨v, tm, _, _, bad, _⟩ := h
      exact absurd bad (Nat.not_lt_zero _))
  | n + 1 => by
    have c_parts := c_parts T D n
    refine cl_of (k := n + 1) D sc__law_parts (fun vs H Q E h => ?_) (fun f cdv A outer s H vs Q E hr h => ?_)
    · obtain ⟨v, tm, rfl, _⟩ := h
      rfl
    · obtain ⟨v, tm, rfl, tv, hh, sz, q⟩ := h
      refine ⟨_, (pss_cons (ps_set (i := 1) sc__law_parts.nd rfl (.inl rfl) (pe_lst (pa_cons (pe_tup (pa_cons (pe_tup pa_nil) (pa_cons (pv 0) pa_nil))) pa_nil)))
      (pss_cons (ps_if (pt_cmpR op_eq (pe_ix ix_tup (pv 0) pe_int (fun _ _ => rfl)) pe_str (nomark _))
        (pss_one (ps_for PassesOwn.never (by rfl) (pi_enumT (by rfl) T.z_enumerate (pa_cons (pe_ix ix_tup (pv 0) pe_int (fun _ _ => rfl)) pa_nil)) (pg_tup (by rfl) (pgs_cons (pg_name (i := 2) sc__law_parts.nd rfl (.inl rfl)) (pgs_cons (pg_name (i := 3) sc__law_parts.nd rfl (.inl rfl)) pgs_nil)))
          (pss_one (ps_for PassesOwn.never (by rfl) (pi_list (pe_cl c_parts hr (by first | decide | omega) (by rfl) (pa_cons (pv 3) pa_nil))) (pg_tup (by rfl) (pgs_cons (pg_name (i := 4) sc__law_parts.nd rfl (.inl rfl)) (pgs_cons (pg_name (i := 5) sc__law_parts.nd rfl (.inl rfl)) pgs_nil)))
            (pss_one (ps_expr (pe_bm PySem.F.plainAttrs_list PySem.F.slot_list_append PySem.F.type_list_append mt_append (pv 1) (pa_cons (pe_tup (pa_cons (pe_op op_catA (pe_tup (pa_cons (pv 2) pa_nil)) (pv 4)) (pa_cons (pv 5) pa_nil))) pa_nil))))))))
        pss_nil)
      (pss_one (ps_ret (pv 1))))), ?_⟩
      refine do_set (do_lst (do_cons (do_tup (do_cons (do_tup (do_nil ⟨Nat.zero_le _, fun p1 n1 => do_cons (do_ev (ev_var rfl) fun H5 e5 => do_nil ⟨by show 2 ≤ sizeLine; decide, fun p2 n2 => do_nil ⟨by show 1 ≤ sizeLine; decide, fun D nD => ?_⟩⟩)⟩))))))
      have x6 : Ex H (upd H5 p2 (.tup [.ref p1, v])) := ((Ex.new n1).trans e5).trans (Ex.new n2)
      have s2 : SqT K (upd H5 p2 (.tup [.ref p1, v])) p2 [.ref p1, v] := st_of upd_same
      have s1 : SqT K (upd H5 p2 (.tup [.ref p1, v])) p1 [] := st_of (Ex.new n2 _ _ (e5 _ _ upd_same))
      generalize upd H5 p2 (.tup [.ref p1, v]) = H6 at *
      have nD0 : H D = none := fresh_back x6 nD
      have x7 : Ex H (upd H6 D (.lst [.ref p2])) := x6.trans (Ex.new nD)
      have D7 : (upd H6 D (.lst [.ref p2])) D = some (.lst [.ref p2]) := upd_same
      have r7 : PtV K (upd H6 D (.lst [.ref p2])) (.ref p2) ([], tm) := ⟨p2, p1, v, rfl, ex_t (Ex.new nD) s2, ex_t (Ex.new nD) s1, tv.ex x7⟩
      generalize upd H6 D (.lst [.ref p2]) = H7 at *
      cases tm with
      | var x =>
        rw [TmV] at tv
        obtain ⟨a, rfl, sa⟩ := tv
        refine q_when (b := false) (et_is (et_test (ev_op (ev_op (ev_var rfl) ev_c (rv_ixT (K := K) (ex_t x7 sa) (atI_vi (k := 0) rfl))) ev_c (rv_eq rfl))) (by decide)) (fun hb => by cases hb) (fun _ H8 e8 => ?_)
        refine s_ret (ev_var rfl) fun H9 e9 => q D _ H9 (x7.trans (e8.trans e9)) nD0 ((e8.trans e9) _ _ D7) ?_
        rw [Tm.pts]
        exact .cons (r7.et (Dw.Ex.et (e8.trans e9))) .nil
      | deed f ts =>
        rw [TmV] at tv
        obtain ⟨a, b, vs, rfl, sa, sb, tvs⟩ := tv
        have lvs := tvs.len
        rw [Tm.hgt] at hh
        rw [Tm.sz] at sz
        refine q_when (b := true) (et_is (et_test (ev_op (ev_op (ev_var rfl) ev_c (rv_ixT (K := K) (ex_t x7 sa) (atI_vi (k := 0) rfl))) ev_c (rv_eq rfl))) (by decide)) (fun _ H8 e8 => ?_) (fun hb => by cases hb)
        have x8 := x7.trans e8
        refine s_enumT (ea_cons (ev_op (ev_var rfl) ev_c (rv_ixT (K := K) (ex_t x8 sa) (atI_vi (k := 2) rfl))) ea_nil) (ex_t x8 sb) (fun i σ' H' => Ex H H' ∧ ∃ (us : List V) (y2 y3 y4 y5 : Option V), H' D = some (.lst us) ∧ Paired (PtV K H') us (([], .deed f ts) :: ptsL 0 (ts.take i)) ∧ σ' = [some (.ref a), some (.ref D), y2, y3, y4, y5])
          (fun H9 e9 => ⟨x8.trans e9, [.ref p2], none, none, none, none, (e8.trans e9) _ _ D7, by rw [List.take_zero, ptsL]; exact .cons (r7.et (Dw.Ex.et (e8.trans e9))) .nil, rfl⟩) (fun i σ' H' _ h => ex_t h.1 sb) (fun i x σ' H9 H10 hx hP e10 => ?_) (fun σ' H9 hP => ?_)
        · obtain ⟨x9, us, y2, y3, y4, y5, D9, prs, hσ⟩ := hP
          subst hσ
          obtain ⟨tk, ek, tvk⟩ := tvs.get hx
          have il : i < ts.length := (List.getElem?_eq_some_iff.mp ek).1
          have ek2 : ts[i] = tk := (List.getElem?_eq_some_iff.mp ek).2
          have tki : ts.take (i + 1) = ts.take i ++ [tk] := by rw [List.take_add_one, ek]; rfl
          have mem : tk ∈ ts := List.mem_of_getElem? ek
          have lti : (ts.take i).length = i := by rw [List.length_take]; omega
          have big := ptsL_take ts (i + 1)
          rw [tki, ptsL_snoc, List.length_append, List.length_map] at big
          have lus := paired_len prs
          rw [List.length_cons] at lus
          have x10 := x9.trans e10
          have D10 := e10 _ _ D9
          refine s_forP (ep_parts (n := n) (ev_var rfl) (tvk.ex x10) (by have := hgt_of mem; omega) (by have := sz_of_mem mem; omega)) fun v2 H11 e11 hv => ?_
          obtain ⟨D2, us2, rfl, nD2, D11, prs2⟩ := hv
          have ne : D ≠ D2 := fun z => by rw [z, nD2] at D10; cases D10
          have l2 := paired_len prs2
          refine ⟨D2, us2, rfl, sq_of D11, fun j σ' H' => Ex H H' ∧ ET K H11 H' ∧ H' D2 = some (.lst us2) ∧ ∃ (us : List V) (y4 y5 : Option V), H' D = some (.lst us) ∧ Paired (PtV K H') us ((([], .deed f ts) :: ptsL 0 (ts.take i)) ++ (tk.pts.take j).map (fun e => (i :: e.1, e.2))) ∧ σ' = [some (.ref a), some (.ref D), some (vi i), some x, y4, y5], ⟨x10.trans e11, ET.refl, D11, us, _, _, e11 _ _ D10, ?_, rfl⟩, fun _ _ _ _ h => sq_of h.2.2.1, fun j y σ' H12 hy hP => ?_, fun σ' H12 hP => ?_⟩
          · rw [List.take_zero, List.map_nil, List.append_nil]
            exact paired_imp (fun _ _ z => PtV.et (Dw.Ex.et (e10.trans e11)) z) prs
          · obtain ⟨x12, et12, D212, us3, z4, z5, D12, prs3, hσ⟩ := hP
            subst hσ
            have jl : j < us2.length := (List.getElem?_eq_some_iff.mp hy).1
            obtain ⟨pe, hpe, pr⟩ := paired_at (paired_imp (fun _ _ z => PtV.et et12 z) prs2) hy
            obtain ⟨path, one⟩ := pe
            obtain ⟨ra, rp, rv, rfl, sra, srp, tvo⟩ := pr
            have lus3 := paired_len prs3
            rw [List.length_append, List.length_map, List.length_take, List.length_cons] at lus3
            have pl : path.length ≤ 1000 := Nat.le_trans (path_len hpe) (by have := sz_of_mem mem; omega)
            refine ⟨ra, _, rfl, sra, rfl, _, _, rfl, _, _, rfl, rfl, ?_⟩
            show tDrop _ _ [some (.ref a), some (.ref D), some (vi i), some x, some (.ref rp), some rv] H12
            have cat := ep_cat (K := K) (xs := [vi i]) (ys := path.map vi) (ep_tup1 (K := K) (ta := tVar 2) (σ := [some (.ref a), some (.ref D), some (vi i), some x, some (.ref rp), some rv]) (H := H12) (ev_var rfl)) (ep_ev (P := fun v H' => TupV K H' v (path.map vi)) (ev_var (i := 4) rfl) (fun H' e' => ⟨rp, rfl, ex_t e' srp⟩)) (by rw [List.length_map]; show 1 + path.length ≤ 100000; omega)
            refine do_app D12 (ev_var rfl) fun H15 e15 => do_tup (do_cons (cat H15 e15 _ fun pv2 H16 e16 hpv => do_cons (do_ev (ev_var rfl) fun H20 e20 => do_nil ⟨by show 2 ≤ sizeLine; decide, fun r nr => ?_⟩)))
            obtain ⟨pa2, rfl, spa2⟩ := hpv
            have x21 : Ex H12 (upd H20 r (.tup [.ref pa2, rv])) := ((e15.trans e16).trans e20).trans (Ex.new nr)
            have D21 : (upd H20 r (.tup [.ref pa2, rv])) D = some (.lst us3) := x21 _ _ D12
            have D221 : (upd H20 r (.tup [.ref pa2, rv])) D2 = some (.lst us2) := x21 _ _ D212
            have r21 : (upd H20 r (.tup [.ref pa2, rv])) r = some (.tup [.ref pa2, rv]) := upd_same
            have sp21 := ex_t (e20.trans (Ex.new nr (o := .tup [.ref pa2, rv]))) spa2
            generalize upd H20 r (.tup [.ref pa2, rv]) = H21 at *
            have et23 : ET K H21 (upd H21 D (.lst (us3 ++ [.ref r]))) := ET.refl.upd D21
            have et22 : ET K H12 (upd H21 D (.lst (us3 ++ [.ref r]))) := ET.trans (Dw.Ex.et x21) et23
            refine ⟨D, us3, .ref r, rfl, rfl, D21, sz_lt (by omega), (x12.trans x21).mut nD0, ET.trans et12 et22, by rw [upd_ne (fun z => ne z.symm)]; exact D221, us3 ++ [.ref r], _, _, upd_same, ?_, rfl⟩
            rw [List.take_add_one, hpe, List.map_append, ← List.append_assoc]
            refine Dw.paired_snoc (y := (i :: path, one)) ⟨r, pa2, rv, rfl, et23 _ _ (st_of r21), ?_, tvo.et et22⟩ (paired_imp (fun _ _ z => PtV.et et22 z) prs3)
            show SqT K _ pa2 ((i :: path).map vi)
            exact et23 _ _ sp21
          · obtain ⟨x12, et12, D212, us3, z4, z5, D12, prs3, hσ⟩ := hP
            refine ⟨x12, us3, _, _, z4, z5, D12, ?_, hσ⟩
            have full : tk.pts.take us2.length = tk.pts := List.take_of_length_le (by omega)
            rw [full] at prs3
            rw [tki, ptsL_snoc, lti]
            exact prs3
        · obtain ⟨x9, us, y2, y3, y4, y5, D9, prs, hσ⟩ := hP
          subst hσ
          rw [List.take_of_length_le (by omega)] at prs
          exact s_ret (ev_var rfl) fun H10 e10 => q D us H10 (x9.trans e10) nD0 (e10 _ _ D9) (paired_imp (fun _ _ z => PtV.et (Dw.Ex.et e10) z) (by rw [Tm.pts]; exact prs))
end
end K11
end
section
namespace K11
open PySem PySem.Spec PyProof.Rows L2 Evl RZ Dw M20
/-! ### the letters of a term as a text -/
def ltx (t : Tm) : Str := Str.join "" (inner t)
theorem cl_joinN : ∀ l : List Str, cl (Str.join "" l) = l.flatMap cl
  | [] => rfl
  | [x] => by
    show cl x = [x].flatMap cl
    rw [List.flatMap_cons, List.flatMap_nil, List.append_nil]
  | x :: y :: l => by
    show cl (x ++ ("" : Str) ++ Str.join "" (y :: l)) = _
    rw [cl_app, cl_app, cl_joinN (y :: l), List.flatMap_cons (x := x)]
    show cl x ++ [] ++ _ = _
    rw [List.append_nil]
theorem one_vars : ∀ x ∈ vars, (cl x).map one = [x] := by decide +kernel
theorem lts_joinN : ∀ l : List Str, (∀ x ∈ l, x ∈ vars) → (l.flatMap cl).map one = l
  | [], _ => rfl
  | x :: l, h => by
    rw [List.flatMap_cons, List.map_append, one_vars x (h x (List.mem_cons_self ..)), lts_joinN l fun y hy => h y (List.mem_cons_of_mem _ hy)]
    rfl
theorem lts_ltx (t : Tm) : lts (ltx t) = inner t := by
  show (cl (Str.join "" (inner t))).map one = _
  rw [cl_joinN]
  exact lts_joinN _ fun x hx => (List.mem_filter.mp hx).1
/-- the letters of parts, one behind the other -/
def lsv : List (List Nat × Tm) → List Str
  | [] => []
  | (_, .var x) :: l => x :: lsv l
  | (_, .deed _ _) :: l => lsv l
theorem lsv_app : ∀ a b : List (List Nat × Tm), lsv (a ++ b) = lsv a ++ lsv b
  | [], b => rfl
  | (_, .var x) :: a, b => by
    show x :: lsv (a ++ b) = x :: lsv a ++ lsv b
    rw [lsv_app a b]
    rfl
  | (_, .deed _ _) :: a, b => lsv_app a b
theorem lsv_map (k : Nat) : ∀ a : List (List Nat × Tm), lsv (a.map fun e => (k :: e.1, e.2)) = lsv a
  | [] => rfl
  | (_, .var x) :: a => by
    show x :: lsv (a.map fun e => (k :: e.1, e.2)) = x :: lsv a
    rw [lsv_map k a]
  | (_, .deed _ _) :: a => lsv_map k a
mutual
theorem lsv_pts : ∀ t : Tm, lsv t.pts = t.ls
  | .var x => by
    rw [Tm.pts, Tm.ls]
    rfl
  | .deed f ts => by
    rw [Tm.pts, Tm.ls]
    exact lsv_ptsL ts 0
theorem lsv_ptsL : ∀ (ts : List Tm) (k : Nat), lsv (ptsL k ts) = lss ts
  | [], k => by
    rw [ptsL, lss]
    rfl
  | t :: ts, k => by
    rw [ptsL, lss, lsv_app, lsv_map, lsv_pts t, lsv_ptsL ts (k + 1)]
end
theorem lsv_len : ∀ a : List (List Nat × Tm), (lsv a).length ≤ a.length
  | [] => Nat.le_refl _
  | (_, .var x) :: a => Nat.succ_le_succ (lsv_len a)
  | (_, .deed _ _) :: a => Nat.le_succ_of_le (lsv_len a)
section
variable {P : Program} {w : World} {K : PySem.W.Frag} {mg : Str → Option Value} {base : Heap} {σ : L2.St} {H H' : Hp} {p c : Addr} {n m k t : Nat} {v : V} {te : TE}
/-- a list over what a call tells -/
theorem do_lcP {tl : TE} {g : TG} {tt : TT} {vs : List Nat} {Q : VK} {Pq : V → Hp → Prop} (h : EvP tl σ H Pq) (k : ∀ v H1, Ex H H1 → Pq v H1 → ∃ a xs, v = .ref a ∧ SqL K H1 a xs ∧ ∃ Pv : Addr → Nat → Hp → Prop, (∀ D, H1 D = none → Pv D 0 (upd H1 D (.lst []))) ∧ (∀ D i H', i ≤ xs.length → Pv D i H' → SqL K H' a xs) ∧
    (∀ D i x H', xs[i]? = some x → Pv D i H' → g x (wipe σ vs) H' fun σ2 H2 => wipe σ2 vs = wipe σ vs ∧ tt σ2 H2 fun b H3 => if b = true then te σ2 H3 fun y H4 => ∃ acc, H4 D = some (.lst acc) ∧ acc.length < sizeLine ∧ Pv D (i + 1) (upd H4 D (.lst (acc ++ [y]))) else Pv D (i + 1) H3) ∧ ∀ D H', Pv D xs.length H' → Q (.ref D) H') : tLc (iList K tl) g tt te vs σ H Q := h H (Ex.refl H) _ fun v H1 e p => by
  obtain ⟨a, xs, rfl, hx, Pv, h0, hl, hs, hd⟩ := k v H1 e p
  exact ⟨a, rfl, ⟨xs, hx⟩, fun Dl nD => lc_it walk_list (Pv Dl) (h0 Dl nD) (hl Dl) (fun i x H2 H3 hi p y => by
    obtain ⟨rfl, hx⟩ := y
    exact hs Dl i x _ hx p) (fun H2 p => hd Dl H2 p)⟩
theorem lsv_take {l : List (List Nat × Tm)} {i : Nat} {e : List Nat × Tm} (h : l[i]? = some e) : lsv (l.take (i + 1)) = lsv (l.take i) ++ lsv [e] := by
  rw [List.take_add_one, h, lsv_app]
  rfl
def sp_letters (K : PySem.W.Frag) (n : Nat) : Sp := spX (fun (tm : Tm) vs H => (∃ v, vs = [v] ∧ TmV K H tm v) ∧ tm.hgt < n ∧ tm.sz ≤ 1000) (fun tm v _ => v = .str (ltx tm))
theorem c_letters (T : Txt mg) (D : Df K mg "_law_letters" s__law_letters ["_law_term_here"]) (c_parts : Cl P w K mg base (n + 1) "_law_parts" (sp_parts K n)) : Cl P w K mg base (n + 2) "_law_letters" (sp_letters K n) := by
  refine cl_of (k := n + 1) D sc__law_letters (fun vs H Q E h => ?_) (fun f cdv A outer s H vs Q E hr h => ?_)
  · obtain ⟨tm, ⟨⟨v, rfl, _⟩, _⟩, _⟩ := h
    rfl
  · obtain ⟨tm, ⟨⟨v, rfl, tv⟩, hh, sz⟩, q⟩ := h
    refine ⟨_, (pss_cons (ps_set (i := 1) sc__law_letters.nd rfl (.inr rfl) (pe_lc (own := [("_law_path", 2), ("_law_piece", 3)]) (g := (gTup _ 2 (gCons (gName 2) (gCons (gName 3) gNil)))) (by rfl) sc__law_letters.nd (pi_list (pe_cl c_parts hr (by first | decide | omega) (by rfl) (pa_cons (pv 0) pa_nil))) (blkOk_by (own := [("_law_path", 2), ("_law_piece", 3)]) (N := ["_law_term_here", "_law_there", "_law_path", "_law_piece", "_law_x"]) (sc := defScope s__law_letters) (by decide +kernel)) (fun _ _ _ _ _ => (pg_tup (by rfl) (pgs_cons (pg_name (i := 2) sc__law_letters.nd rfl (.inl rfl)) (pgs_cons (pg_name (i := 3) sc__law_letters.nd rfl (.inl rfl)) pgs_nil)))) (fun _ _ _ _ _ => (pts_one (pt_cmpR op_eq (pe_ix (ix_tupK K) (pv 3) pe_int (fun _ _ => rfl)) pe_str (nomark _)))) (fun _ _ _ _ _ => (pe_ix (ix_tupK K) (pv 3) pe_int (fun _ _ => rfl)))))
      (pss_one (ps_ret (pe_join pe_str (pe_lc (own := [("_law_x", 4)]) (g := (gName 4)) (by rfl) sc__law_letters.nd (pi_str pe_str) (blkOk_by (own := [("_law_x", 4)]) (N := ["_law_term_here", "_law_there", "_law_path", "_law_piece", "_law_x"]) (sc := defScope s__law_letters) (by decide +kernel)) (fun _ _ _ _ _ => (pg_name (i := 4) sc__law_letters.nd rfl (.inl rfl))) (fun _ _ _ _ _ => (pts_one (pt_cmpR (op_in_seqK K) (pv 4) (pv 1) (by rfl)))) (fun _ _ _ _ _ => (pv 4))))))), ?_⟩
    replace hh : tm.hgt < n := hh
    replace sz : tm.sz ≤ 1000 := sz
    replace tv : TmV K H tm v := tv
    refine do_set (do_lcP (ep_parts (n := n) (ev_var rfl) tv hh sz) fun v2 H1 e1 hv => ?_)
    obtain ⟨D2, us, rfl, nD2, D1, prs⟩ := hv
    have lus := paired_len prs
    have plen := pts_len tm
    refine ⟨D2, us, rfl, sq_of D1, fun D i H' => H1 D = none ∧ Ex H1 H' ∧ H' D = some (.lst ((lsv (tm.pts.take i)).map V.str)), fun D nD => ⟨nD, Ex.new nD, upd_same⟩, fun _ _ _ _ h => sq_of (h.2.1 _ _ D1), fun D i x H' hx hP => ?_, fun D H' hP => ?_⟩
    · obtain ⟨nD, e2, hD⟩ := hP
      obtain ⟨pe, hpe, pr⟩ := paired_at prs hx
      have lw := lsv_len (tm.pts.take i)
      rw [List.length_take] at lw
      obtain ⟨path, one⟩ := pe
      obtain ⟨ra, rp, rv, rfl, sra, srp, tvo⟩ := pr.et (Dw.Ex.et e2)
      refine ⟨ra, _, rfl, sra, rfl, _, _, rfl, _, _, rfl, rfl, rfl, ?_⟩
      cases one with
      | var x =>
        rw [TmV] at tvo
        obtain ⟨a, rfl, sa⟩ := tvo
        refine (et_test (ev_op (ev_op (ev_var rfl) ev_c (rv_ixT (K := K) sa (atI_vi (k := 0) rfl))) ev_c (rv_eq rfl))) _ (Ex.refl _) _ fun H3 e3 => iteT ?_
        refine do_ev (ev_op (ev_var rfl) ev_c (rv_ixT (K := K) (ex_t e3 sa) (atI_vi (k := 1) rfl))) fun H4 e4 => ?_
        refine ⟨_, (e3.trans e4) _ _ hD, by rw [List.length_map]; exact sz_lt (by omega), nD, (e2.trans (e3.trans e4)).mut nD, ?_⟩
        rw [upd_same, lsv_take hpe, List.map_append]
        rfl
      | deed g ts =>
        rw [TmV] at tvo
        obtain ⟨a, b, vs, rfl, sa, _⟩ := tvo
        refine (et_test (ev_op (ev_op (ev_var rfl) ev_c (rv_ixT (K := K) sa (atI_vi (k := 0) rfl))) ev_c (rv_eq rfl))) _ (Ex.refl _) _ fun H3 e3 => iteF ?_
        refine ⟨nD, e2.trans e3, ?_⟩
        rw [e3 _ _ hD, lsv_take hpe]
        show _ = some (HO.lst ((lsv (tm.pts.take i) ++ []).map V.str))
        rw [List.append_nil]
    · obtain ⟨nD, e2, hD⟩ := hP
      rw [List.take_of_length_le (by omega), lsv_pts] at hD
      have x2 := e1.trans e2
      have six : EvL _ _ H' ((inner tm).map V.str) := el_six (σ := [some v, some (.ref D), none, none, none]) (H := H') (j := 4) (tt := tTest (tOp (rIn K false) (tVar 4) (tVar 1))) (fun x => decide (x ∈ tm.ls)) (fun _ => rfl) (fun _ => rfl) fun x H3 e3 hx => et_is (et_test (ev_op (ev_var rfl) (ev_var rfl) (rv_isL (K := K) (sq_of (e3 _ _ hD)) rfl (flat_strs tm.ls)))) (by rw [inV_str])
      have small : ∀ l : List Str, (∀ x ∈ l, x ∈ vars) → (l.map (·.length)).sum = l.length := by
        intro l
        induction l with
        | nil => intro _; rfl
        | cons x l ih =>
          intro h
          have l1 : ∀ x ∈ vars, x.length = 1 := by decide
          rw [List.map_cons, List.sum_cons, ih fun y hy => h y (List.mem_cons_of_mem _ hy), l1 x (h x (List.mem_cons_self ..)), List.length_cons, Nat.add_comm]
      have l6 : (inner tm).length ≤ 6 := List.length_filter_le ..
      refine s_ret (ev_join ev_c six (by rw [small (inner tm) fun x hx => (List.mem_filter.mp hx).1]; show _ + _ * 0 ≤ _; omega)) fun H3 e3 => q _ H3 (x2.trans e3) rfl
/-- the letters of so many places -/
def pls (k : Nat) : List Str := vars.take k
/-- a reading: a term for each deed -/
structure Rdg (K : PySem.W.Frag) (H : Hp) (sg sg2 : List (Str × Nat)) (ts : List Tm) (us : List V) : Prop where
  tms : TmsV K H ts us
  len : ts.length ≤ sg.length
  each : ∀ i (h : i < ts.length) (h2 : i < sg.length), (ts[i]).ok sg2 ∧ (ts[i]).sz ≤ 7 ∧ (ts[i]).hgt ≤ 3 ∧ ∀ x ∈ (ts[i]).ls, x ∈ pls (sg[i]).2
def uvz (k : Nat) : Str := cutS "uv" none (some (k : Int))
theorem lts_uvz : ∀ k, k ≤ 2 → lts (uvz k) = pls k := by decide +kernel
theorem ev_slS {tk : TE} {z : Str} (h : Ev te σ H (.str z)) (hk : Ev tk σ H (vi k)) (l : z.length ≤ 1000) : Ev (tSl rSlS te tNoPart (tPart tk)) σ H (.str (cutS z none (some (k : Int)))) := fun H1 e Q q =>
  h H1 e _ fun H2 e2 => eo_none (σ := σ) (H := H) H2 (e.trans e2) _ fun H3 e3 => eo_some hk H3 ((e.trans e2).trans e3) _ fun H4 e4 => ⟨z, rfl, sz_of (by omega), q H4 ((e2.trans e3).trans e4)⟩
def sp_lreading (K : PySem.W.Frag) : Sp := fun vs H Q _ => ∃ (p c : Addr) (t : Nat) (sv ov : V) (sg sg2 : List (Str × Nat)), vs = [.ref p, sv, ov] ∧ Pur H p c t ∧ t ≤ 70000 ∧ FSig K H sv sg ∧ SigOk sg ∧ FSig K H ov sg2 ∧ SigOk sg2 ∧ (∃ y, (y, 0) ∈ sg2) ∧
  ∀ a ts us t' H', Off H H' p c → Pur H' p c t' → t' ≤ t + 80 → SqT K H' a us → Rdg K H' sg sg2 ts us → ts.length = sg.length → Q (.ref a) H'
theorem c_lreading (T : Txt mg) (D : Df K mg "_law_reading" s__law_reading ["_law_pile_here", "_law_sig", "_law_other"]) (c_take : Cl P w K mg base 2 "_law_take" sp_take) (c_term : Cl P w K mg base 6 "_law_term" (sp_lterm K 3)) : Cl P w K mg base 7 "_law_reading" (sp_lreading K) := by
  refine cl_of (k := 6) D sc__law_reading (fun vs H Q E h => ?_) (fun f cdv A outer s H vs Q E hr h => ?_)
  · obtain ⟨p, c, t, sv, ov, sg, sg2, rfl, _⟩ := h
    rfl
  · obtain ⟨p, c, t, sv, ov, sg, sg2, rfl, pu, big, hF, so, hG, so2, bare, q⟩ := h
    refine ⟨_, (pss_cons (ps_set (i := 3) sc__law_reading.nd rfl (.inl rfl) (pe_lst pa_nil))
      (pss_cons (ps_for PassesOwn.never (by rfl) (pi_tup (pv 1)) (pg_tup (by rfl) (pgs_cons (pg_name (i := 4) sc__law_reading.nd rfl (.inl rfl)) (pgs_cons (pg_name (i := 5) sc__law_reading.nd rfl (.inl rfl)) pgs_nil)))
        (pss_one (ps_expr (pe_bm PySem.F.plainAttrs_list PySem.F.slot_list_append PySem.F.type_list_append mt_append (pv 3) (pa_cons (pe_cl c_term hr (by first | decide | omega) (by rfl) (pa_cons (pv 0) (pa_cons (pv 2) (pa_cons (pe_slice sl_str pe_str po_none (po_some (pv 5))) (pa_cons (pe_op op_add pe_int (pe_cl c_take hr (by first | decide | omega) (by rfl) (pa_cons (pv 0) (pa_cons pe_int pa_nil)))) pa_nil))))) pa_nil)))))
      (pss_one (ps_ret (pe_callTy call_tupF (by rfl) T.z_tuple (by decide +kernel) (pa_cons (pv 3) pa_nil)))))), ?_⟩
    have so1 := so
    obtain ⟨sa, o1, ps, rfl, hsa, sod, prs⟩ := id hF
    have sqS : SqT K H sa (ps.map V.ref) := .inl (.inr ⟨o1, hsa⟩)
    have lps := paired_len prs
    have l4 := so.l4
    refine do_set (do_lst (do_nil ⟨Nat.zero_le _, fun D nD => ?_⟩))
    have x1 : Ex H (upd H D (.lst [])) := Ex.new nD
    have D1 : (upd H D (.lst [])) D = some (.lst []) := upd_same
    generalize upd H D (.lst []) = H1 at *
    obtain ⟨Dp, Dc⟩ := pu.fresh nD
    show tSeq _ _ _ [some (.ref p), some (.ref sa), some ov, some (.ref D), none, none] H1
    refine q_forT (K := K) (ev_var rfl) (ex_t x1 sqS) (fun i σ' H' => Off H H' p c ∧ (∃ t', Pur H' p c t' ∧ t' ≤ t + i * 16) ∧ ∃ (ts : List Tm) (us : List V) (y4 y5 : Option V), H' D = some (.lst us) ∧ Rdg K H' sg sg2 ts us ∧ ts.length = i ∧ σ' = [some (.ref p), some (.ref sa), some ov, some (.ref D), y4, y5])
      (fun H2 e2 => ⟨.of_ex (x1.trans e2), ⟨t, pu.ex (x1.trans e2), by omega⟩, [], [], none, none, e2 _ _ D1, ⟨by rw [TmsV], Nat.zero_le _, fun i h => absurd h (Nat.not_lt_zero _)⟩, rfl, rfl⟩) (fun i σ' H' _ h => h.1.et pu _ _ sqS) (fun i x σ' H2 hx hP => ?_) (fun σ' H2 hP => ?_)
    · obtain ⟨o2, ⟨t2, pu2, lt2⟩, ts, us, y4, y5, D2, rd, lts, hσ⟩ := hP
      subst hσ
      have hi : i < ps.length := by
        have := (List.getElem?_eq_some_iff.mp hx).1
        rw [List.length_map] at this
        exact this
      rw [List.getElem?_map, List.getElem?_eq_getElem hi] at hx
      cases Option.some.inj hx
      obtain ⟨dd, ed, hdd⟩ := paired_at prs (List.getElem?_eq_getElem hi)
      have is : i < sg.length := by omega
      have edd : sg[i] = dd := (List.getElem?_eq_some_iff.mp ed).2
      have pl2 : dd.2 ≤ 2 := so.pl _ (List.mem_of_getElem? ed)
      obtain ⟨nm, pl⟩ := dd
      refine ⟨ps[i], _, rfl, o2.et pu _ _ hdd, rfl, _, _, rfl, _, _, rfl, rfl, ?_⟩
      show tDrop _ _ [some (.ref p), some (.ref sa), some ov, some (.ref D), some (.str nm), some (vi pl)] H2
      replace pl2 : pl ≤ 2 := pl2
      have ltu := rd.tms.len
      refine do_app D2 (ev_var rfl) fun H3 e3 => do_cons (do_ev (ev_var rfl) fun H4 e4 => do_cons (do_ev (ev_var rfl) fun H5 e5 => do_cons (do_ev (ev_slS (z := "uv") (k := pl) ev_c (ev_var rfl) (by decide)) fun H6 e6 => do_cons (do_op (do_ev ev_c fun H7 e7 => do_take (n := 2) (ev_var rfl) ev_c (pu2.ex ((((e3.trans e4).trans e5).trans e6).trans e7)) (by omega) (by omega) (by omega) fun k H8 hk o8 pu8 => ⟨1, (k : Int), rfl, rfl, do_nil ?_⟩)))))
      have o28 : Off H2 H8 p c := (Off.of_ex ((((e3.trans e4).trans e5).trans e6).trans e7)).trans o8
      have d12 : 1 + k = 1 ∨ 1 + k = 2 := by omega
      have p4 : 4 * 2 ^ (1 + k) ≤ 16 := by rcases d12 with e | e <;> rw [e] <;> decide
      have uvl : (uvz pl).length ≤ 2 := cutS_length _ _ _
      have uve := lts_uvz pl pl2
      refine ⟨p, c, t2 + 1, 1 + k, ov, sg2, uvz pl, rfl, by omega, pu8, by omega, hG.off pu (o2.trans o28), so2, bare, by omega, fun x hx => ?_, fun v tm t9 H9 o9 pu9 lt9 tv okt szt hgt lin => ?_⟩
      · rw [uve] at hx
        exact List.mem_of_mem_take hx
      have o29 := o28.trans o9
      have D9 : H9 D = some (.lst us) := o29 _ _ Dp Dc D2
      have et : ET K H2 (upd H9 D (.lst (us ++ [v]))) := ET.trans (o29.et pu2) (ET.refl.upd D9)
      have et9 : ET K H9 (upd H9 D (.lst (us ++ [v]))) := ET.refl.upd D9
      refine ⟨D, us, v, rfl, rfl, D9, sz_lt (by omega), (o2.trans o29).upd nD, ⟨t9, pu9.upd Dp Dc, by rw [Nat.add_mul, Nat.one_mul]; omega⟩, ts ++ [tm], us ++ [v], _, _, upd_same, ⟨(rd.tms.et et).snoc (tv.et et9), by rw [List.length_append, lts]; show i + 1 ≤ _; omega, fun j h1 h2 => ?_⟩, by rw [List.length_append, lts]; rfl, rfl⟩
      rw [List.length_append, lts] at h1
      replace h1 : j < i + 1 := h1
      by_cases ji : j < i
      · have g : (ts ++ [tm])[j]'(by rw [List.length_append, lts]; exact h1) = ts[j]'(by omega) := List.getElem_append_left (by omega)
        rw [g]
        exact rd.each j (by omega) h2
      · obtain rfl : j = i := by omega
        have g : (ts ++ [tm])[j]'(by rw [List.length_append, lts]; exact h1) = tm := by
          rw [List.getElem_append_right (by omega)]
          simp [lts]
        rw [g, edd]
        refine ⟨okt, ?_, by omega, fun x hx => by rw [← uve]; exact lin x hx⟩
        have p8 : 2 ^ (1 + k + 1) ≤ 8 := by rcases d12 with e | e <;> rw [e] <;> decide
        omega
    · obtain ⟨o2, ⟨t2, pu2, lt2⟩, ts, us, y4, y5, D2, rd, lts, hσ⟩ := hP
      subst hσ
      rw [List.length_map] at lts lt2
      refine do_ret (do_cb (do_cons (do_ev (ev_var rfl) fun H3 e3 => do_nil ⟨D, us, rfl, sq_of (e3 _ _ D2), fun r o nr od => ?_⟩)))
      have x4 : Ex H2 (upd H3 r (.frz o (.tup us))) := e3.trans (Ex.new nr)
      exact q r ts us t2 _ (o2.trans (.of_ex x4)) (pu2.ex x4) (by omega) (.inl (.inr ⟨o, upd_same⟩)) ⟨rd.tms.et (Dw.Ex.et x4), rd.len, rd.each⟩ (by omega)
end
end K11
end
section
namespace K11
open PySem PySem.Spec PyProof.Rows L2 Evl RZ Dw M20
section
variable {P : Program} {w : World} {K : PySem.W.Frag} {mg : Str → Option Value} {base : Heap} {σ : L2.St} {H H' : Hp} {p c : Addr} {n m k t : Nat} {v : V} {te : TE} {sg : List (Str × Nat)}
/-! ### things stay where only the pile is written -/
theorem far_ne {a : Addr} {xs : List V} (pu : Pur H p c n) (h : H a = some (.lst xs)) (far : FarL H xs) : a ≠ p ∧ a ≠ c := by
  obtain ⟨rfl, d, m, k, hp, _⟩ := pu
  have e : a ≠ c := fun e => by
    rw [e, hp] at h
    injection h with h
    injection h with h
    exact far _ _ h.symm
  exact ⟨e, e⟩
theorem FarL.off {xs : List V} (h : FarL H xs) : FarL H' xs := h
theorem Dq.off {v : V} {d : PyData} (pu : Pur H p c n) (o : Off H H' p c) (h : Dq K H v d) : Dq K H' v d := by
  cases h with
  | fl h nl => exact .fl (dp_off pu o h nl) nl
  | lst h hd nl far => exact .lst (o _ _ (far_ne pu h far).1 (far_ne pu h far).2 h) (dps_off pu o hd nl) nl far.off
  | deed h0 h hd nl far => exact .deed (o.et pu _ _ h0) (o _ _ (far_ne pu h far).1 (far_ne pu h far).2 h) (dps_off pu o hd nl) nl far.off
theorem NoTu.off {v : V} (pu : Pur H p c n) (o : Off H H' p c) (h : NoTu H v) : NoTu H' v := by
  cases h with
  | non => exact .non
  | int i => exact .int i
  | bl b => exact .bl b
  | str z => exact .str z
  | lst h far => exact .lst (o _ _ (far_ne pu h far).1 (far_ne pu h far).2 h) far.off
theorem NF.off {v : V} (pu : Pur H p c n) (o : Off H H' p c) (h : NF K H sg v) : NF K H' sg v := by
  have e : ET K H H' := o.et pu
  cases h with
  | tup h => exact .tup (h.off pu o)
  | len h h2 h3 => exact .len (e _ _ h) h2 h3
  | two h ne => exact .two (e _ _ h) ne
  | letter h fl no => exact .letter (e _ _ h) fl no
  | three h ne => exact .three (e _ _ h) ne
  | name h no => exact .name (e _ _ h) (no.off pu o)
  | terms h no => exact .terms (e _ _ h) (no.off pu o)
  | many h h2 no sk => exact .many (e _ _ h) (e _ _ h2) no sk
mutual
theorem BtV.off (pu : Pur H p c n) (o : Off H H' p c) : ∀ {t : Bt} {v : V}, BtV K H sg t v → BtV K H' sg t v
  | .var x, v, h => by
    rw [BtV] at h ⊢
    obtain ⟨a, q, s⟩ := h
    exact ⟨a, q, o.et pu _ _ s⟩
  | .deed f ts, v, h => by
    rw [BtV] at h ⊢
    obtain ⟨a, b, vs, q, s, s2, r⟩ := h
    exact ⟨a, b, vs, q, o.et pu _ _ s, o.et pu _ _ s2, BtsV.off pu o r⟩
  | .odd d, v, h => by
    rw [BtV] at h ⊢
    exact ⟨h.1.off pu o, h.2.off pu o⟩
theorem BtsV.off (pu : Pur H p c n) (o : Off H H' p c) : ∀ {ts : List Bt} {vs : List V}, BtsV K H sg ts vs → BtsV K H' sg ts vs
  | [], vs, h => by
    rw [BtsV] at h ⊢
    exact h
  | t :: ts, vs, h => by
    rw [BtsV] at h ⊢
    obtain ⟨v, us, q, a, b⟩ := h
    exact ⟨v, us, q, BtV.off pu o a, BtsV.off pu o b⟩
end
theorem ThB.off (pu : Pur H p c n) (o : Off H H' p c) (h : ThB K H sg v) : ThB K H' sg v := let ⟨b, x, y⟩ := h; ⟨b, x.off pu o, y⟩
end
/-! ### a thing that may be a reading: no tuple, or a tuple of bent terms -/
inductive Rt where
  | odd (d : PyData)
  | row (bs : List Bt)
def Rt.data : Rt → PyData
  | .odd d => d
  | .row bs => .tuple (bdatas bs)
def RtV (K : PySem.W.Frag) (H : Hp) (sg : List (Str × Nat)) : Rt → V → Prop
  | .odd d => fun v => Dq K H v d ∧ NoTu H v
  | .row bs => fun v => ∃ a us, v = .ref a ∧ SqT K H a us ∧ BtsV K H sg bs us
def Rt.fits (sg : List (Str × Nat)) : Rt → Prop
  | .odd _ => True
  | .row bs => boks sg bs ∧ (∀ b ∈ bs, b.sz ≤ 8) ∧ bs.length ≤ 8
def Rt.ok (sg : List (Str × Nat)) (t : Rt) : Prop := t.fits sg ∧ Gb 40 6000 t.data
section
variable {P : Program} {w : World} {K : PySem.W.Frag} {mg : Str → Option Value} {base : Heap} {σ : L2.St} {H H' : Hp} {p c : Addr} {n m k t : Nat} {v : V} {te : TE} {sg : List (Str × Nat)}
theorem RtV.ex {th : Rt} (e : Ex H H') (h : RtV K H sg th v) : RtV K H' sg th v := by
  cases th with
  | odd d => exact ⟨h.1.ex e, h.2.ex e⟩
  | row bs =>
    obtain ⟨a, us, q, s, r⟩ := h
    exact ⟨a, us, q, ex_t e s, r.ex e⟩
theorem RtV.off {th : Rt} (pu : Pur H p c n) (o : Off H H' p c) (h : RtV K H sg th v) : RtV K H' sg th v := by
  cases th with
  | odd d => exact ⟨h.1.off pu o, h.2.off pu o⟩
  | row bs =>
    obtain ⟨a, us, q, s, r⟩ := h
    exact ⟨a, us, q, o.et pu _ _ s, r.off pu o⟩
theorem RtV.dp {th : Rt} (h : RtV K H sg th v) : Dp K H v th.data := by
  cases th with
  | odd d => exact h.1.dp
  | row bs =>
    obtain ⟨a, us, rfl, s, r⟩ := h
    exact .tup s r.dp
/-- a strange thing: as a term and as a reading -/
def Strg (K : PySem.W.Frag) (sg : List (Str × Nat)) (v : V) (H : Hp) : Prop := ThB K H sg v ∧ ∃ th, RtV K H sg th v ∧ th.ok sg
theorem Strg.st : ∀ v H H', Ex H H' → Strg K sg v H → Strg K sg v H' := fun _ _ _ e ⟨a, th, b, r⟩ => ⟨a.ex e, th, b.ex e, r⟩
theorem Strg.off (pu : Pur H p c n) (o : Off H H' p c) (h : Strg K sg v H) : Strg K sg v H' := let ⟨a, th, b, r⟩ := h; ⟨a.off pu o, th, b.off pu o, r⟩
theorem Gd.gb6 {k W : Nat} {d : PyData} (g : Gd k W d) (hk : k ≤ 40) (hW : W ≤ 6000) : Gb 40 6000 d := (K11.Gd.gb g).mono hk hW
theorem ths_row (so : SigOk sg) : ∀ {us : List V}, (∀ x ∈ us, ThB K H sg x) → ∃ bs, BtsV K H sg bs us ∧ boks sg bs ∧ bfines bs ∧ (∀ b ∈ bs, b.sz ≤ 4) ∧ bs.length = us.length
  | [], _ => ⟨[], .nil, by rw [boks]; trivial, by rw [bfines]; trivial, fun _ z => (nomatch z), rfl⟩
  | x :: us, h => by
    obtain ⟨b, h1, h2, h3, h4⟩ := h x (List.mem_cons_self ..)
    obtain ⟨bs, g1, g2, g3, g4, g5⟩ := ths_row so (us := us) fun y hy => h y (List.mem_cons_of_mem _ hy)
    refine ⟨b :: bs, by rw [BtsV]; exact ⟨x, us, rfl, h1, g1⟩, by rw [boks]; exact ⟨h2, g2⟩, by rw [bfines]; exact ⟨h3, g3⟩, fun y hy => ?_, by rw [List.length_cons, List.length_cons, g5]⟩
    rcases List.mem_cons.mp hy with z | z
    · rw [z]
      exact h4
    · exact g4 y z
theorem bszs_le4 : ∀ {bs : List Bt}, (∀ b ∈ bs, b.sz ≤ 4) → bszs bs ≤ 4 * bs.length
  | [], _ => by
    rw [bszs]
    exact Nat.zero_le _
  | b :: bs, h => by
    rw [bszs, List.length_cons]
    have h1 := h b (List.mem_cons_self ..)
    have h2 := bszs_le4 (bs := bs) fun y hy => h y (List.mem_cons_of_mem _ hy)
    omega
theorem gb_bts (so : SigOk sg) {bs : List Bt} (o : boks sg bs) (f : bfines bs) (l : bszs bs ≤ 12) : Gb 40 6000 (.tuple (bdatas bs)) := by
  obtain ⟨a, b, cc, d, e⟩ := gd_bts so bs o f
  have g : GbA 39 5990 (bdatas bs) := ⟨a, Nat.le_trans b (by omega), Nat.le_trans cc (by omega), ints_monos _ d, e⟩
  exact (gb_tup g).mono (by decide) (by decide)
/-- a tuple of a few strange parts -/
theorem strg_row (so : SigOk sg) {a : Addr} {us : List V} (s : SqT K H a us) (h : ∀ x ∈ us, ThB K H sg x) (l : us.length ≤ 3) (tb : ThB K H sg (.ref a)) : Strg K sg (.ref a) H := by
  obtain ⟨bs, g1, g2, g3, g4, g5⟩ := ths_row so h
  have := bszs_le4 g4
  exact ⟨tb, .row bs, ⟨a, us, rfl, s, g1⟩, ⟨g2, fun b hb => Nat.le_trans (g4 b hb) (by decide), by omega⟩, gb_bts so g2 g3 (by omega)⟩
theorem thb_c {d : PyData} (hd : Dp K H v d) (nt : NoTu H v) (g : Gd 3 22 d) (nl : noL d = true) : ThB K H sg v := th_odd (.fl hd nl) (.tup nt) (g.mono (by decide) (by decide))
theorem thb_s {z : Str} (g : Gd 3 22 (.str z)) : ThB K H sg (.str z) := thb_c (.str z) (.str z) g rfl
end
end K11
end
section
namespace K11
open PySem PySem.Spec PyProof.Rows L2 Evl RZ Dw M20
theorem gd_lst0 : Gd 3 22 (.list []) := (gd_lst (k := 0) (W := 0) (L := 0) (fun d hd => by cases hd) (by decide)).mono (by decide) (by decide)
theorem gd_non1 : Gd 3 22 (.tuple [.none]) := (gd_tup (k := 0) (W := 10) (L := 1) (fun d hd => by
  rw [List.mem_singleton.mp hd]
  exact ⟨by rw [PyData.canLay0], by rw [PyData.depth]; decide, by rw [PyData.weight]; decide, by rw [PyData.intsShort], by rw [PyData.showable]⟩) (by decide)).mono (by decide) (by decide)
theorem gd_m1 : Gd 3 22 (.int (-1)) := gd_int (by decide) (by rw [PyData.intsShort]; decide)
theorem gd_00 : Gd 3 22 (.int 0) := gd_int (by decide) (by rw [PyData.intsShort]; decide)
theorem noz {sg : List (Str × Nat)} (so : SigOk sg) (k : Nat) : (("z" : Str), k) ∉ sg := fun h => by
  have nm : Name "z" := so.nm _ h
  have := nm.abc 122 (by decide +kernel)
  exact absurd this (by decide +kernel)
section
variable {P : Program} {w : World} {K : PySem.W.Frag} {mg : Str → Option Value} {base : Heap} {σ : L2.St} {H H' : Hp} {p c : Addr} {n m k t : Nat} {v : V} {te : TE} {sg : List (Str × Nat)}
theorem far0 : FarL H [] := fun _ _ z => by cases z
theorem strg_c {d : PyData} (h : Ev te σ H v) (hd : ∀ H, Dp K H v d) (nt : ∀ H, NoTu H v) (g : Gd 3 22 d) (nl : noL d = true) : EvP te σ H (Strg K sg) := ep_ev h fun H' _ => ⟨thb_c (hd _) (nt _) g nl, .odd d, ⟨.fl (hd _) nl, nt _⟩, trivial, Gd.gb6 g (by decide) (by decide)⟩
theorem strg_t0 (so : SigOk sg) : EvP (tTup tNil) σ H (Strg K sg) := fun H1 e Q q => eu_tup (vs := []) ea_nil (by show 0 ≤ 100000; decide) H1 e _ fun a H2 _ e2 hp => q _ H2 e2 (strg_row so (st_of hp) (fun _ z => (nomatch z)) (by decide) (th_odd (d := .tuple []) (.fl (.tup (st_of hp) .nil) rfl) (.len (st_of hp) (by decide) (by decide)) (gd_small (fun d hd => by cases hd) (by decide))))
theorem strg_l0 : EvP (tLst tNil) σ H (Strg K sg) := fun H1 e Q q => el_lst (vs := []) ea_nil (by show 0 ≤ 100000; decide) H1 e _ fun a H2 _ e2 hp => q _ H2 e2 ⟨th_odd (d := .list []) (.lst hp .nil rfl far0) (.tup (.lst hp far0)) (gd_lst0.mono (by decide) (by decide)), .odd (.list []), ⟨.lst hp .nil rfl far0, .lst hp far0⟩, trivial, Gd.gb6 gd_lst0 (by decide) (by decide)⟩
theorem strg_l2 {x y : Str} (gx : Gd 3 22 (.str x)) (gy : Gd 3 22 (.str y)) : EvP (tLst (tCons (tC (.str x)) (tCons (tC (.str y)) tNil))) σ H (Strg K sg) := fun H1 e Q q => el_lst (vs := [.str x, .str y]) (ea_cons ev_c (ea_cons ev_c ea_nil)) (by show 2 ≤ 100000; decide) H1 e _ fun a H2 _ e2 hp => by
  have far : FarL H2 [V.str x, .str y] := fun _ _ z => by cases z
  have dq : Dq K H2 (.ref a) (.list [.str x, .str y]) := .lst hp (.cons (.str _) (.cons (.str _) .nil)) rfl far
  have g : Gd 5 100 (.list [.str x, .str y]) := gd_smallL (mem2 gx gy) (by show 2 ≤ 4; decide)
  exact q _ H2 e2 ⟨th_odd dq (.tup (.lst hp far)) g, .odd _, ⟨dq, .lst hp far⟩, trivial, Gd.gb6 g (by decide) (by decide)⟩
theorem strg_t1 (so : SigOk sg) {x : Str} (g : Gd 3 22 (.str x)) : EvP (tTup (tCons (tC (.str x)) tNil)) σ H (Strg K sg) := fun H1 e Q q => eu_tup (vs := [.str x]) (ea_cons ev_c ea_nil) (by show 1 ≤ 100000; decide) H1 e _ fun a H2 _ e2 hp => q _ H2 e2 (strg_row so (st_of hp) (fun y z => by
  rw [List.mem_singleton.mp z]
  exact thb_s g) (by show 1 ≤ 3; decide) (th_odd (d := .tuple [.str x]) (.fl (.tup (st_of hp) (.cons (.str _) .nil)) rfl) (.len (st_of hp) (by show 1 ≠ 2; decide) (by show 1 ≠ 3; decide)) (gd_small (mem1 g) (by show 1 ≤ 4; decide))))
theorem strg_t2 (so : SigOk sg) {t1 t2 : TE} {x y : Str} (h1 : Ev t1 σ H (.str x)) (h2 : Ev t2 σ H (.str y)) (gx : Gd 3 22 (.str x)) (gy : Gd 3 22 (.str y)) (no : x ≠ "var" ∨ (x = "var" ∧ inV (.str y) (vars.map V.str) = false)) : EvP (tTup (tCons t1 (tCons t2 tNil))) σ H (Strg K sg) := fun H1 e Q q => eu_tup (vs := [.str x, .str y]) (ea_cons h1 (ea_cons h2 ea_nil)) (by show 2 ≤ 100000; decide) H1 e _ fun a H2 _ e2 hp => by
  have s : SqT K H2 a [.str x, .str y] := st_of hp
  have nf : NF K H2 sg (.ref a) := by
    rcases no with z | ⟨rfl, z⟩
    · exact .two s z
    · exact .letter s rfl z
  exact q _ H2 e2 (strg_row so s (mem2 (thb_s gx) (thb_s gy)) (by show 2 ≤ 3; decide) (th_odd (d := .tuple [.str x, .str y]) (.fl (.tup s (.cons (.str _) (.cons (.str _) .nil))) rfl) nf (gd_small (mem2 gx gy) (by show 2 ≤ 4; decide))))
theorem strg_t3 (so : SigOk sg) {x y z : Str} (gx : Gd 3 22 (.str x)) (gy : Gd 3 22 (.str y)) (gz : Gd 3 22 (.str z)) (no : x ≠ "deed") : EvP (tTup (tCons (tC (.str x)) (tCons (tC (.str y)) (tCons (tC (.str z)) tNil)))) σ H (Strg K sg) := fun H1 e Q q => eu_tup (vs := [.str x, .str y, .str z]) (ea_cons ev_c (ea_cons ev_c (ea_cons ev_c ea_nil))) (by show 3 ≤ 100000; decide) H1 e _ fun a H2 _ e2 hp => by
  have s : SqT K H2 a [.str x, .str y, .str z] := st_of hp
  exact q _ H2 e2 (strg_row so s (mem3 (thb_s gx) (thb_s gy) (thb_s gz)) (by show 3 ≤ 3; decide) (th_odd (d := .tuple [.str x, .str y, .str z]) (.fl (.tup s (.cons (.str _) (.cons (.str _) (.cons (.str _) .nil)))) rfl) (.three s no) (gd_small (mem3 gx gy gz) (by show 3 ≤ 4; decide))))
/-- ("deed", word, []) -/
theorem strg_dl (so : SigOk sg) {tn : TE} {f : Str} (hn : ∀ H1, Ex H H1 → Ev tn σ H1 (.str f)) (g : Gd 3 22 (.str f)) : EvP (tTup (tCons (tC (.str "deed")) (tCons tn (tCons (tLst tNil) tNil)))) σ H (Strg K sg) := fun H1 e Q q => do_tup (do_cons (do_ev ev_c fun H2 e2 => do_cons (do_ev (hn H2 (e.trans e2)) fun H3 e3 => do_cons (do_lst (do_nil ⟨Nat.zero_le _, fun b nb => do_nil ⟨by show 3 ≤ sizeLine; decide, fun a na => by
  have x5 : Ex H1 (upd (upd H3 b (.lst [])) a (.tup [.str "deed", .str f, .ref b])) := ((e2.trans e3).trans (Ex.new nb)).trans (Ex.new na)
  have s : SqT K (upd (upd H3 b (.lst [])) a (.tup [.str "deed", .str f, .ref b])) a [.str "deed", .str f, .ref b] := st_of upd_same
  have hb : (upd (upd H3 b (.lst [])) a (.tup [.str "deed", .str f, .ref b])) b = some (.lst []) := Ex.new na _ _ upd_same
  generalize upd (upd H3 b (.lst [])) a (.tup [.str "deed", .str f, .ref b]) = H5 at *
  have tl : ThB K H5 sg (.ref b) := th_odd (d := .list []) (.lst hb .nil rfl far0) (.tup (.lst hb far0)) (gd_lst0.mono (by decide) (by decide))
  exact q _ H5 x5 (strg_row so s (mem3 (thb_s gd_deedS) (thb_s g) tl) (by show 3 ≤ 3; decide) (th_odd (d := .tuple [.str "deed", .str f, .list []]) (.deed s hb .nil rfl far0) (.terms s (.lst hb far0)) (gd_small (mem3 gd_deedS g gd_lst0) (by show 3 ≤ 4; decide))))⟩⟩)))))
/-- ("deed", "z", ()) -/
theorem strg_dz (so : SigOk sg) : EvP (tTup (tCons (tC (.str "deed")) (tCons (tC (.str "z")) (tCons (tTup tNil) tNil)))) σ H (Strg K sg) := fun H1 e Q q => do_tup (do_cons (do_ev ev_c fun H2 e2 => do_cons (do_ev ev_c fun H3 e3 => do_cons (do_tup (do_nil ⟨Nat.zero_le _, fun b nb => do_nil ⟨by show 3 ≤ sizeLine; decide, fun a na => by
  have x5 : Ex H1 (upd (upd H3 b (.tup [])) a (.tup [.str "deed", .str "z", .ref b])) := ((e2.trans e3).trans (Ex.new nb)).trans (Ex.new na)
  have s : SqT K (upd (upd H3 b (.tup [])) a (.tup [.str "deed", .str "z", .ref b])) a [.str "deed", .str "z", .ref b] := st_of upd_same
  have hb : SqT K (upd (upd H3 b (.tup [])) a (.tup [.str "deed", .str "z", .ref b])) b [] := st_of (Ex.new na _ _ upd_same)
  generalize upd (upd H3 b (.tup [])) a (.tup [.str "deed", .str "z", .ref b]) = H5 at *
  have tl : ThB K H5 sg (.ref b) := th_odd (d := .tuple []) (.fl (.tup hb .nil) rfl) (.len hb (by decide) (by decide)) (gd_tup0.mono (by decide) (by decide))
  have gz : Gd 3 22 (.str "z") := gd_s (by decide)
  exact q _ H5 x5 (strg_row so s (mem3 (thb_s gd_deedS) (thb_s gz) tl) (by show 3 ≤ 3; decide) (th_odd (d := .tuple [.str "deed", .str "z", .tuple []]) (.fl (.tup s (.cons (.str _) (.cons (.str _) (.cons (.tup hb .nil) .nil)))) rfl) (.many s hb (noz so _) (by decide +kernel)) (gd_small (mem3 gd_deedS gz gd_tup0) (by show 3 ≤ 4; decide))))⟩⟩)))))
/-- ("deed", word, (None,)) -/
theorem strg_dn (so : SigOk sg) {tn : TE} {f : Str} (hn : ∀ H1, Ex H H1 → Ev tn σ H1 (.str f)) (g : Gd 3 22 (.str f)) : EvP (tTup (tCons (tC (.str "deed")) (tCons tn (tCons (tTup (tCons (tC .non) tNil)) tNil)))) σ H (Strg K sg) := fun H1 e Q q => do_tup (do_cons (do_ev ev_c fun H2 e2 => do_cons (do_ev (hn H2 (e.trans e2)) fun H3 e3 => do_cons (do_tup (do_cons (do_ev ev_c fun H4 e4 => do_nil ⟨by show 1 ≤ sizeLine; decide, fun b nb => do_nil ⟨by show 3 ≤ sizeLine; decide, fun a na => by
  have x5 : Ex H1 (upd (upd H4 b (.tup [.non])) a (.tup [.str "deed", .str f, .ref b])) := (((e2.trans e3).trans e4).trans (Ex.new nb)).trans (Ex.new na)
  have s : SqT K (upd (upd H4 b (.tup [.non])) a (.tup [.str "deed", .str f, .ref b])) a [.str "deed", .str f, .ref b] := st_of upd_same
  have hb : SqT K (upd (upd H4 b (.tup [.non])) a (.tup [.str "deed", .str f, .ref b])) b [.non] := st_of (Ex.new na _ _ upd_same)
  generalize upd (upd H4 b (.tup [.non])) a (.tup [.str "deed", .str f, .ref b]) = H5 at *
  have tl : ThB K H5 sg (.ref b) := th_odd (d := .tuple [.none]) (.fl (.tup hb (.cons .non .nil)) rfl) (.len hb (by show 1 ≠ 2; decide) (by show 1 ≠ 3; decide)) (gd_non1.mono (by decide) (by decide))
  have root : ThB K H5 sg (.ref a) := by
    by_cases mem : (f, 1) ∈ sg
    · exact th_nones (k := 1) s ⟨b, rfl, hb⟩ mem (by decide)
    · exact th_odd (d := .tuple [.str "deed", .str f, .tuple [.none]]) (.fl (.tup s (.cons (.str _) (.cons (.str _) (.cons (.tup hb (.cons .non .nil)) .nil)))) rfl) (.many s hb mem (strOk_of g)) (gd_small (mem3 gd_deedS g gd_non1) (by show 3 ≤ 4; decide))
  exact q _ H5 x5 (strg_row so s (mem3 (thb_s gd_deedS) (thb_s g) tl) (by show 3 ≤ 3; decide) root)⟩⟩))))))
def sp_strange (K : PySem.W.Frag) : Sp := fun vs H Q _ => ∃ (p c : Addr) (t : Nat) (f : Str) (sg : List (Str × Nat)), vs = [.ref p, .str f] ∧ Pur H p c t ∧ t ≤ 80000 ∧ Name f ∧ SigOk sg ∧ ∀ v H', Off H H' p c → Pur H' p c (t + 1) → Strg K sg v H' → Q v H'
theorem c_strange (T : Txt mg) (D : Df K mg "_law_strange" s__law_strange ["_law_pile_here", "_law_word_here"]) (c_take : Cl P w K mg base 2 "_law_take" sp_take) : Cl P w K mg base 3 "_law_strange" (sp_strange K) := by
  refine cl_of (k := 2) D sc__law_strange (fun vs H Q E h => ?_) (fun f cdv A outer s H vs Q E hr h => ?_)
  · obtain ⟨p, c, t, f, sg, rfl, _⟩ := h
    rfl
  · obtain ⟨p, c, t, f, sg, rfl, pu, big, nm, so, q⟩ := h
    refine ⟨_, (pss_cons (ps_set (i := 2) sc__law_strange.nd rfl (.inl rfl) (pe_lst (pa_cons pe_non (pa_cons pe_bl (pa_cons pe_int (pa_cons pe_str (pa_cons pe_str (pa_cons (pe_tup pa_nil) (pa_cons (pe_lst pa_nil) (pa_cons (pe_un un_neg pe_int) (pa_cons (pe_tup (pa_cons pe_str pa_nil)) (pa_cons (pe_tup (pa_cons pe_str (pa_cons pe_str pa_nil))) (pa_cons (pe_tup (pa_cons pe_str (pa_cons pe_str pa_nil))) (pa_cons (pe_tup (pa_cons pe_str (pa_cons (pv 1) pa_nil))) (pa_cons (pe_lst (pa_cons pe_str (pa_cons pe_str pa_nil))) pa_nil)))))))))))))))
      (pss_cons (ps_set (i := 2) sc__law_strange.nd rfl (.inl rfl) (pe_op op_cat (pv 2) (pe_lst (pa_cons (pe_tup (pa_cons pe_str (pa_cons (pv 1) (pa_cons (pe_lst pa_nil) pa_nil)))) (pa_cons (pe_tup (pa_cons pe_str (pa_cons pe_str (pa_cons (pe_tup pa_nil) pa_nil)))) (pa_cons (pe_tup (pa_cons pe_str (pa_cons pe_str pa_nil))) (pa_cons (pe_tup (pa_cons pe_str (pa_cons pe_str (pa_cons pe_str pa_nil)))) (pa_cons (pe_tup (pa_cons pe_str (pa_cons (pv 1) (pa_cons (pe_tup (pa_cons pe_non pa_nil)) pa_nil)))) (pa_cons pe_int pa_nil)))))))))
      (pss_one (ps_ret (pe_ix ix_list (pv 2) (pe_cl c_take hr (by first | decide | omega) (by rfl) (pa_cons (pv 0) (pa_cons pe_int pa_nil))) (fun _ _ => rfl)))))), ?_⟩
    obtain ⟨gf, _, _⟩ := name_gd nm
    have gu : Gd 3 22 (.str "u") := gd_s (by decide)
    refine do_set ((ep_lstR (R := Strg K sg) Strg.st (n := 13) (eas_cons Strg.st (strg_c ev_c (fun _ => .non) (fun _ => .non) gd_none rfl) (eas_cons Strg.st (strg_c ev_c (fun _ => .bl true) (fun _ => .bl true) (gd_bool true) rfl) (eas_cons Strg.st (strg_c ev_c (fun _ => .int 0) (fun _ => .int 0) gd_00 rfl) (eas_cons Strg.st (strg_c ev_c (fun _ => .str "u") (fun _ => .str "u") gu rfl) (eas_cons Strg.st (strg_c ev_c (fun _ => .str "") (fun _ => .str "") (gd_s (by decide)) rfl) (eas_cons Strg.st (strg_t0 so) (eas_cons Strg.st strg_l0 (eas_cons Strg.st (strg_c (ev_un (z := .int (-1)) ev_c (fun H1 _ Q q => ⟨1, rfl, q H1 (Ex.refl _)⟩)) (fun _ => .int (-1)) (fun _ => .int (-1)) gd_m1 rfl) (eas_cons Strg.st (strg_t1 so gd_varS) (eas_cons Strg.st (strg_t2 so ev_c ev_c gd_varS (gd_s (by decide)) (.inr ⟨rfl, by decide +kernel⟩)) (eas_cons Strg.st (strg_t2 so ev_c ev_c gd_varS (gd_s (by decide)) (.inr ⟨rfl, by decide +kernel⟩)) (eas_cons Strg.st (strg_t2 so ev_c (ev_var rfl) gd_deedS gf (.inl (by decide))) (eas_cons Strg.st (strg_l2 gd_varS gu) eas_nil))))))))))))) (by decide) pu) H (Ex.refl H) _ fun v H1 e1 hv => ?_)
    refine do_set ((ep_catR (R := Strg K sg) Strg.st (ep_ev (P := LsR (Strg K sg) p c 13) (ev_var rfl) fun H' e' => hv.ex Strg.st e') (ep_lstR (R := Strg K sg) Strg.st (n := 6) (eas_cons Strg.st (strg_dl so (fun _ _ => ev_var rfl) gf) (eas_cons Strg.st (strg_dz so) (eas_cons Strg.st (strg_t2 so ev_c ev_c (gd_s (by decide)) gu (.inl (by decide))) (eas_cons Strg.st (strg_t3 so gd_varS gu gu (by decide)) (eas_cons Strg.st (strg_dn so (fun _ _ => ev_var rfl) gf) (eas_cons Strg.st (strg_c ev_c (fun _ => .int 7) (fun _ => .int 7) gd_7 rfl) eas_nil)))))) (by decide) (pu.ex e1)) (by decide) (pu.ex e1)) H1 (Ex.refl _) _ fun v2 H2 e2 hv2 => ?_)
    obtain ⟨l, xs, rfl, hl, lp, lc, ln, all⟩ := hv2
    have e02 := e1.trans e2
    refine do_ret (do_op (do_ev (ev_var rfl) fun H3 e3 => do_take (n := 19) (ev_var rfl) ev_c (pu.ex (e02.trans e3)) (by omega) (by decide) (by decide) fun k H4 hk o4 pu4 => ?_))
    have kl : k < xs.length := by omega
    refine ⟨l, xs, (k : Int), xs[k], rfl, rfl, sq_of (o4 _ _ lp lc (e3 _ _ hl)), atI_nat (List.getElem?_eq_getElem kl), q _ H4 ((Off.of_ex (e02.trans e3)).trans o4) pu4 ?_⟩
    exact (Strg.st _ _ _ e3 (all _ (List.getElem_mem kl))).off (pu.ex (e02.trans e3)) o4
end
end K11
end
section
namespace K11
open PySem PySem.Spec PyProof.Rows L2 Evl RZ Dw M20
/-! ### a bent term with nothing odd is a term -/
mutual
def Bt.tm : Bt → Tm
  | .var x => .var x
  | .deed f ts => .deed f (btms ts)
  | .odd _ => .var ""
def btms : List Bt → List Tm
  | [] => []
  | t :: ts => t.tm :: btms ts
end
mutual
def Bt.all : Bt → Bool
  | .var _ => true
  | .deed _ ts => ball ts
  | .odd _ => false
def ball : List Bt → Bool
  | [] => true
  | t :: ts => t.all && ball ts
end
mutual
theorem all_met : ∀ (t : Bt) (p : List Nat), t.all = true → ∀ e ∈ t.met p, e.2.fits = true
  | .var x, p, _, e, h => by
    rw [Bt.met, List.mem_singleton] at h
    rw [h]
    rfl
  | .deed f ts, p, a, e, h => by
    rw [Bt.all] at a
    rw [Bt.met, List.mem_cons] at h
    rcases h with h | h
    · rw [h]
      rfl
    · exact alls_met ts p 0 a e h
  | .odd d, p, a, e, h => by
    rw [Bt.all] at a
    cases a
theorem alls_met : ∀ (ts : List Bt) (p : List Nat) (k : Nat), ball ts = true → ∀ e ∈ mets ts p k, e.2.fits = true
  | [], p, k, _, e, h => by
    rw [mets] at h
    cases h
  | t :: ts, p, k, a, e, h => by
    rw [ball, Bool.and_eq_true] at a
    rw [mets, List.mem_append] at h
    rcases h with h | h
    · exact all_met t _ a.1 e h
    · exact alls_met ts p (k + 1) a.2 e h
end
mutual
theorem odd_met : ∀ (t : Bt) (p : List Nat), t.all = false → ∃ e ∈ t.met p, e.2.fits = false
  | .var x, p, h => by
    rw [Bt.all] at h
    cases h
  | .deed f ts, p, h => by
    rw [Bt.all] at h
    obtain ⟨e, he, q⟩ := odds_met ts p 0 h
    exact ⟨e, by rw [Bt.met]; exact List.mem_cons_of_mem _ he, q⟩
  | .odd d, p, _ => ⟨(p, .odd d), by rw [Bt.met]; exact List.mem_singleton.mpr rfl, rfl⟩
theorem odds_met : ∀ (ts : List Bt) (p : List Nat) (k : Nat), ball ts = false → ∃ e ∈ mets ts p k, e.2.fits = false
  | [], p, k, h => by
    rw [ball] at h
    cases h
  | t :: ts, p, k, h => by
    rw [ball, Bool.and_eq_false_iff] at h
    rcases h with h | h
    · obtain ⟨e, he, q⟩ := odd_met t (p ++ [k]) h
      exact ⟨e, by rw [mets]; exact List.mem_append_left _ he, q⟩
    · obtain ⟨e, he, q⟩ := odds_met ts p (k + 1) h
      exact ⟨e, by rw [mets]; exact List.mem_append_right _ he, q⟩
end
theorem wrong_none {t : Bt} (s : t.sz ≤ 60) (h : t.all = true) : wrongL (t.met []) = .none := by
  rw [wrongL_fine (all_met t [] h), if_neg (by rw [met_len]; omega)]
theorem wrong_some {t : Bt} (h : t.all = false) : wrongL (t.met []) ≠ .none := by
  obtain ⟨e, he, q⟩ := odd_met t [] h
  unfold wrongL
  cases f : (t.met []).find? (fun e => !e.2.fits) with
  | none =>
    have := List.find?_eq_none.mp f e he
    rw [q] at this
    exact absurd rfl this
  | some e2 => exact fun z => by cases z
section
variable {P : Program} {w : World} {K : PySem.W.Frag} {mg : Str → Option Value} {base : Heap} {σ : L2.St} {H H' : Hp} {p c : Addr} {n m k t : Nat} {v : V} {te : TE} {sg : List (Str × Nat)} {va : Addr}
mutual
theorem BtV.tm : ∀ {t : Bt} {v : V}, t.all = true → BtV K H sg t v → TmV K H t.tm v
  | .var x, v, _, h => by
    rw [BtV] at h
    rw [Bt.tm, TmV]
    exact h
  | .deed f ts, v, al, h => by
    rw [BtV] at h
    rw [Bt.all] at al
    rw [Bt.tm, TmV]
    obtain ⟨a, b, vs, q, s, s2, r⟩ := h
    exact ⟨a, b, vs, q, s, s2, BtsV.tm al r⟩
  | .odd d, v, al, h => by
    rw [Bt.all] at al
    cases al
theorem BtsV.tm : ∀ {ts : List Bt} {vs : List V}, ball ts = true → BtsV K H sg ts vs → TmsV K H (btms ts) vs
  | [], vs, _, h => by
    rw [BtsV] at h
    rw [btms, TmsV]
    exact h
  | t :: ts, vs, al, h => by
    rw [BtsV] at h
    rw [ball, Bool.and_eq_true] at al
    rw [btms, TmsV]
    obtain ⟨v, us, q, a, b⟩ := h
    exact ⟨v, us, q, BtV.tm al.1 a, BtsV.tm al.2 b⟩
end
theorem btms_len : ∀ ts : List Bt, (btms ts).length = ts.length
  | [] => by
    rw [btms]
    rfl
  | t :: ts => by rw [btms, List.length_cons, List.length_cons, btms_len ts]
mutual
theorem tm_ok : ∀ {t : Bt}, t.all = true → t.ok sg → t.tm.ok sg
  | .var x, _, h => by
    rw [Bt.ok] at h
    rw [Bt.tm, Tm.ok]
    exact h
  | .deed f ts, al, h => by
    rw [Bt.ok] at h
    rw [Bt.all] at al
    rw [Bt.tm, Tm.ok, btms_len]
    exact ⟨h.1, tms_ok al h.2⟩
  | .odd d, al, h => by
    rw [Bt.all] at al
    cases al
theorem tms_ok : ∀ {ts : List Bt}, ball ts = true → boks sg ts → oks sg (btms ts)
  | [], _, _ => by
    rw [btms, oks]
    trivial
  | t :: ts, al, h => by
    rw [boks] at h
    rw [ball, Bool.and_eq_true] at al
    rw [btms, oks]
    exact ⟨tm_ok al.1 h.1, tms_ok al.2 h.2⟩
end
mutual
theorem tm_sz : ∀ {t : Bt}, t.tm.sz = t.sz
  | .var x => by rw [Bt.tm, Tm.sz, Bt.sz]
  | .deed f ts => by rw [Bt.tm, Tm.sz, Bt.sz, tms_sz]
  | .odd d => by rw [Bt.tm, Tm.sz, Bt.sz]
theorem tms_sz : ∀ {ts : List Bt}, szs (btms ts) = bszs ts
  | [] => by rw [btms, szs, bszs]
  | t :: ts => by rw [btms, szs, bszs, tm_sz, tms_sz]
end
/-- right for a deed of so many places -/
def rdB (pl : Nat) (t : Bt) : Bool := t.all && (inner t.tm).all fun x => decide (x ∈ pls pl)
theorem el_lcTV {xs : List V} {tl : TE} {j : Nat} {vs : List Nat} (h : EvP tl σ H (fun v H' => TupV K H' v xs)) (u : Nat → V) (hn : xs.length ≤ 40000) (hwp : ∀ x, wipe ((wipe σ vs).set j (some x)) vs = wipe σ vs)
    (he : ∀ i x H1, Ex H H1 → xs[i]? = some x → Ev te ((wipe σ vs).set j (some x)) H1 (u i)) : EvL (tLc (iTup K tl) (gName j) tYes te vs) σ H ((List.range xs.length).map u) := fun H1 e Q q => h H1 e _ fun v H2 e2 hv => by
  obtain ⟨a, rfl, s⟩ := hv
  exact el_lcT (K := K) (tl := tC (.ref a)) (te := te) (j := j) (vs := vs) (σ := σ) (H := H2) ev_c s u hn hwp (fun i x H3 e3 hx => he i x H3 ((e.trans e2).trans e3) hx) H2 (Ex.refl _) Q (fun p H3 n e3 hp => q p H3 (fresh_back e2 n) (e2.trans e3) hp)
theorem sl_tupAK {X : Cx} (K : PySem.W.Frag) (hK : X.K = K := by rfl) : SlR X (rSlA K) := by
  subst hK
  exact sl_tupA
theorem ev_inTo {ta tb : TE} {x : Str} {k : Nat} (h : Ev ta σ H (.str x)) (V0 : Vars K mg va) (hb : Ev tb σ H (vi k)) (hk : k ≤ 6) : Ev (tOp (rIn K false) ta (tSl (rSlA K) (tC (.ref va)) tNoPart (tPart tb))) σ H (.bl (decide (x ∈ pls k))) := fun H1 e Q q => h H1 e _ fun H2 e2 => by
  refine ep_cutTo (K := K) (k := k) ev_c (V0.sq H) hb hk H2 (e.trans e2) _ fun u H3 e3 hu => ?_
  obtain ⟨b, rfl, sb⟩ := hu
  refine rv_isT (K := K) sb (xs := (vars.map V.str).take k) rfl (by rw [← List.map_take]; exact flat_strs _) H3 (Ex.refl _) Q fun H4 e4 => ?_
  rw [← List.map_take, inV_str]
  exact q H4 ((e2.trans e3).trans e4)
def sp_is_rd (K : PySem.W.Frag) : Sp := spX (fun (z : List (Str × Nat) × Nat × Bt) vs H => (∃ d v, vs = [vi z.2.1, .ref d, v] ∧ PlcX H d z.1 ∧ BtV K H z.1 z.2.2 v) ∧ z.2.2.ok z.1 ∧ (z.1.map (·.1)).Nodup ∧ z.2.2.sz ≤ 8 ∧ z.2.1 ≤ 2) (fun z v _ => v = .bl (rdB z.2.1 z.2.2))
theorem c_is_rd (T : Txt mg) (V0 : Vars K mg va) (D : Df K mg "is_reading_of_deed" s_is_reading_of_deed ["places", "others", "thing"]) (c_wrong_any : Cl P w K mg base 2 "wrong_in_term" (sp_wrong_any K)) (c_variables_of : Cl P w K mg base 2 "variables_of" (sp_variables_of K)) : Cl P w K mg base 3 "is_reading_of_deed" (sp_is_rd K) := by
  refine cl_of (k := 2) D sc_is_reading_of_deed (fun vs H Q E h => ?_) (fun f cdv A outer s H vs Q E hr h => ?_)
  · obtain ⟨z, ⟨⟨d, v, rfl, _⟩, _⟩, _⟩ := h
    rfl
  · obtain ⟨⟨sg, pl, t⟩, ⟨⟨d, v, rfl, plc, tv⟩, ok, nd, small, p2⟩, q⟩ := h
    have c_wrong_in_term := c_wrong_any
    refine ⟨_, (pss_cons (ps_if (pt_cmpR op_notN (pe_cl c_wrong_in_term hr (by first | decide | omega) (by rfl) (pa_cons (pv 1) (pa_cons (pv 2) pa_nil))) pe_non (nomark _))
        (pss_one (ps_ret pe_bl))
        pss_nil)
      (pss_one (ps_ret (pe_callB (cr_all rfl) (by rfl) T.z_all (by decide +kernel) (pa_cons (pe_lc (own := [("name", 3)]) (g := (gName 3)) (by rfl) sc_is_reading_of_deed.nd (pi_tup (pe_cl c_variables_of hr (by first | decide | omega) (by rfl) (pa_cons (pe_lst (pa_cons (pv 2) pa_nil)) pa_nil))) (blkOk_by (own := [("name", 3)]) (N := ["places", "others", "thing", "name"]) (sc := defScope s_is_reading_of_deed) (by decide +kernel)) (fun _ _ _ _ _ => (pg_name (i := 3) sc_is_reading_of_deed.nd rfl (.inl rfl))) (fun _ _ _ _ _ => pts_nil) (fun _ _ _ _ _ => (pe_cmpR (op_in_seqK K) (pv 3) (pe_slice (sl_tupAK K) (pe_gv (by rfl) V0.at_) po_none (po_some (pv 0))) (by rfl)))) pa_nil))))), ?_⟩
    replace plc : PlcX H d sg := plc
    replace tv : BtV K H sg t v := tv
    replace ok : t.ok sg := ok
    replace nd : (sg.map (·.1)).Nodup := nd
    replace small : t.sz ≤ 8 := small
    replace p2 : pl ≤ 2 := p2
    replace q : ∀ r H', Ex H H' → r = .bl (rdB pl t) → Q r H' := q
    cases al : t.all with
    | false =>
      refine s_when (b := true) (et_isNP ((ep_call (sg, t) (ea_cons (ev_var rfl) (ea_cons (ev_var rfl) ea_nil)) (fun H1 e1 => ⟨⟨_, _, rfl, plc.ex e1, tv.ex e1⟩, ok, nd, by show t.sz ≤ 100; omega⟩)).imp fun r H1 _ y => w_ref (show Dp K H1 r (wrongL (t.met [])) from y) (wrong_some al) (wrongL_tup _))) (fun _ H1 e1 => ?_) (fun hb => by cases hb)
      exact s_ret ev_c fun H2 e2 => q _ H2 (e1.trans e2) (by rw [rdB, al]; rfl)
    | true =>
      refine q_when (b := false) (et_is (et_isN (ev_ep ((ep_call (sg, t) (ea_cons (ev_var rfl) (ea_cons (ev_var rfl) ea_nil)) (fun H1 e1 => ⟨⟨_, _, rfl, plc.ex e1, tv.ex e1⟩, ok, nd, by show t.sz ≤ 100; omega⟩)).imp fun r H1 _ y => by
        have z : Dp K H1 r (wrongL (t.met [])) := y
        rw [wrong_none (by omega) al] at z
        cases z
        exact rfl))) (by decide)) (fun hb => by cases hb) (fun _ H1 e1 => ?_)
      have tm := (tv.ex e1).tm al
      have okt := tm_ok al ok
      have tl : ∀ x ∈ inner t.tm, x ∈ vars := fun x hx => (List.mem_filter.mp hx).1
      have l6 : (inner t.tm).length ≤ 6 := List.length_filter_le ..
      have lc := el_lcTV (K := K) (σ := [some (vi pl), some (.ref d), some v, none]) (H := H1) (tl := tCall (sp_variables_of K) [] E0 (tCons (tLst (tCons (tVar 2) tNil)) tNil)) (te := tOp (rIn K false) (tVar 3) (tSl (rSlA K) (tC (.ref va)) tNoPart (tPart (tVar 0)))) (j := 3) (vs := [3]) (xs := (inner t.tm).map V.str) ((ep_vars (ev_var rfl) tm okt (by rw [tm_sz]; omega)).imp fun u H2 _ hu => hu.sq) (fun i => .bl (decide ((inner t.tm).getD i "" ∈ pls pl))) (by rw [List.length_map]; omega) (fun _ => rfl) (fun i x H3 e3 hx => ?_)
      · have ea : (List.range ((inner t.tm).map V.str).length).map (fun i => V.bl (decide ((inner t.tm).getD i "" ∈ pls pl))) = ((inner t.tm).map fun x => decide (x ∈ pls pl)).map V.bl := by
          rw [List.map_map, List.length_map]
          apply List.ext_getElem?
          intro j
          by_cases hj : j < (inner t.tm).length
          · rw [List.getElem?_map, List.getElem?_range hj, List.getElem?_map, List.getElem?_eq_getElem hj]
            show some (V.bl (decide ((inner t.tm).getD j "" ∈ pls pl))) = some (V.bl (decide ((inner t.tm)[j] ∈ pls pl)))
            rw [List.getD_eq_getElem?_getD, List.getElem?_eq_getElem hj]
            rfl
          · rw [List.getElem?_eq_none_iff.mpr (by simp; omega), List.getElem?_eq_none_iff.mpr (by simp; omega)]
        rw [ea] at lc
        refine s_ret (ev_all lc) fun H3 e3 => q _ H3 (e1.trans e3) ?_
        rw [rdB, al, Bool.true_and, List.all_map]
        rfl
      · have hi : i < (inner t.tm).length := by
          have := (List.getElem?_eq_some_iff.mp hx).1
          rw [List.length_map] at this
          exact this
        rw [List.getElem?_map, List.getElem?_eq_getElem hi] at hx
        cases Option.some.inj hx
        have g : (inner t.tm).getD i "" = (inner t.tm)[i] := by rw [List.getD_eq_getElem?_getD, List.getElem?_eq_getElem hi]; rfl
        rw [g]
        exact ev_inTo (ev_var rfl) V0 (ev_var rfl) (by omega)
end
end K11
end
section
namespace K11
open PySem PySem.Spec PyProof.Rows L2 Evl RZ Dw M20
/-! ### readings: what is wrong -/
def rdAt (sg : List (Str × Nat)) (bs : List Bt) : List Nat := (List.range sg.length).filter fun k => !rdB (plOf sg k) (bs.getD k (.odd .none))
def rdOdd : PyData := .tuple [.str "reading"]
def rdW (sg : List (Str × Nat)) : Rt → PyData
  | .odd _ => rdOdd
  | .row bs => if bs.length = sg.length then (match rdAt sg bs with
    | [] => .none
    | k :: _ => dK2 "deed" k) else rdOdd
def fewB (pl : Nat) (t : Bt) : List Str := (inner t.tm).filter fun x => !decide (x ∈ pls pl)
theorem few_all (p : Str → Bool) : ∀ l : List Str, (l.filter fun x => !p x).isEmpty = l.all p
  | [] => rfl
  | x :: l => by
    have := few_all p l
    rw [List.filter_cons, List.all_cons]
    cases h : p x with
    | true =>
      rw [if_neg (by decide), Bool.true_and]
      exact this
    | false =>
      rw [if_pos (by decide), Bool.false_and]
      rfl
theorem one_mem {z : Str} {cc : Nat} : (one cc) ∈ lts z ↔ cc ∈ z.cps.toList := by
  refine ⟨fun h => ?_, fun h => List.mem_map.mpr ⟨cc, h, rfl⟩⟩
  obtain ⟨x, hx, e⟩ := List.mem_map.mp h
  have : [x] = [cc] := congrArg (fun s : Str => s.cps.toList) e
  cases this
  exact hx
theorem lts_get {z : Str} {i cc : Nat} (h : z.cps[i]? = some cc) : (lts z).getD i "" = one cc := by
  rw [lts, List.getD_eq_getElem?_getD, List.getElem?_map, Array.getElem?_toList, h]
  rfl
theorem var_gd : ∀ x ∈ vars, (∀ c ∈ x.cps.toList, c < 0x110000) ∧ x.length ≤ 4 := by decide +kernel
section
variable {P : Program} {w : World} {K : PySem.W.Frag} {mg : Str → Option Value} {base : Heap} {σ : L2.St} {H H' : Hp} {p c : Addr} {n m k t : Nat} {v : V} {te : TE} {sg : List (Str × Nat)} {va : Addr}
theorem et_neNilL {te : TE} {ls : List Str} (h : EvL te σ H (ls.map V.str)) (sub : ∀ x ∈ ls, x ∈ vars) (few : ls.length ≤ 6) : EvT (tTest (tOp (rNeD K) te (tLst tNil))) σ H (!ls.isEmpty) := et_test fun H1 e1 Q q => h H1 e1 _ fun l H2 nl e2 hl => ⟨Nat.zero_le _, fun r nr => by
  refine ⟨.list (ls.map PyData.str), .list [], .lst (sq_of (Ex.new nr _ _ hl)) (dps_strs ls), .lst (sq_of upd_same) .nil, (gd_lst (k := 0) (W := 4) (L := 6) (fun d hd => by
    obtain ⟨x, hx, e⟩ := List.mem_map.mp hd
    rw [← e]
    exact gd_strB (var_gd x (sub x hx)).1 (var_gd x (sub x hx)).2) (by rw [List.length_map]; exact few)).shaped (by decide), rfl, ?_⟩
  have z := q _ (e2.trans (Ex.new (o := .lst []) nr))
  cases ls with
  | nil => exact z
  | cons a r => exact z⟩
/-- the letters of a text that are not among so many -/
theorem el_oddl {tl : TE} {z : Str} {pl i j : Nat} (hz : z.length ≤ 1000) (p2 : pl ≤ 2) (h : Ev tl σ H (.str z)) (hi : ∀ x : V, ((wipe σ [j]).set j (some x))[i]? = some (some (vi pl))) (hj : ∀ x : V, ((wipe σ [j]).set j (some x))[j]? = some (some x)) (hw : ∀ x, wipe ((wipe σ [j]).set j (some x)) [j] = wipe σ [j]) :
    EvL (tLc (iStr tl) (gName j) (tTest (tOp (fun x y H Q => ∃ (c : Nat) (z : Str), x = .str ⟨#[c]⟩ ∧ y = .str z ∧ Q (.bl (!decide (c ∈ z.cps.toList))) H) (tVar j) (tSl rSlS (tC (.str "uv")) tNoPart (tPart (tVar i))))) (tVar j) [j]) σ H (((lts z).filter fun x => !decide (x ∈ pls pl)).map V.str) := by
  have hs : z.cps.size = z.length := rfl
  have ll : (lts z).length = z.cps.size := by rw [lts, List.length_map, Array.length_toList]
  rw [← given_filter (lts z) (fun x => !decide (x ∈ pls pl)), ll]
  refine el_lcIt walk_str (w_str h) (fun _ _ => trivial) (Px := fun i x => ∃ c, z.cps[i]? = some c ∧ x = .str ⟨#[c]⟩) (fun i H x H' y => y) _ _ (by omega) hw (fun i2 x H1 e hi2 ⟨cc, hc, hx⟩ => ?_) (fun i2 x H1 e hi2 ⟨cc, hc, hx⟩ _ => ?_)
  · subst hx
    rw [lts_get hc]
    refine et_test (ev_op (ev_var (hj _)) (ev_slS (z := "uv") (k := pl) ev_c (ev_var (hi _)) (by decide)) (fun H3 _ Q q3 => ⟨cc, uvz pl, rfl, rfl, ?_⟩))
    have e1 : decide (one cc ∈ pls pl) = decide (cc ∈ (uvz pl).cps.toList) := by
      rw [← lts_uvz pl p2]
      exact decide_eq_decide.mpr one_mem
    rw [← e1]
    exact q3 H3 (Ex.refl H3)
  · subst hx
    rw [lts_get hc]
    exact ev_var (hj _)
theorem q_enumTP {a : Addr} {xs : List V} {ta : TA} {j1 j2 j3 : Nat} {tu tz : TS} {D : Ends} (h : EvA ta σ H [.ref a]) (hx : SqT K H a xs) (Pv : Nat → L2.St → Hp → Prop) (h0 : ∀ H1, Ex H H1 → Pv 0 σ H1) (hl : ∀ i σ' H', i ≤ xs.length → Pv i σ' H' → SqT K H' a xs)
    (hs : ∀ i x σ' H' H'', xs[i]? = some x → Pv i σ' H' → Ex H' H'' → ∃ r u1 u2, x = .ref r ∧ SqT K H'' r [u1, u2] ∧ tu { D with nx := Pv (i + 1), ct := Pv (i + 1), bk := tz D } (((σ'.set j1 (some (vi i))).set j2 (some u1)).set j3 (some u2)) H'') (hd : ∀ σ' H', Pv xs.length σ' H' → tz D σ' H') :
    tSeq (tFor (iEnumT K ta) (gTup K 2 (gCons (gName j1) (gCons (gTup K 2 (gCons (gName j2) (gCons (gName j3) gNil))) gNil))) tu) tz D σ H :=
  h H (Ex.refl H) _ fun H1 e => ⟨a, xs, rfl, ex_t e hx, for_it (D := { D with nx := tz D }) walk_enumT Pv (h0 H1 e) hl (fun i v σ' H2 H3 hi p y => by
    obtain ⟨T, x1, x2, rfl, nT, rfl, e1, e2⟩ := y
    cases e1
    obtain ⟨r, u1, u2, rfl, sq, hh⟩ := hs i x2 σ' H2 _ e2 p (Ex.new (o := .tup [vi i, x2]) nT)
    exact ⟨T, _, rfl, st_of upd_same, rfl, _, _, rfl, _, _, rfl, r, _, rfl, sq, rfl, _, _, rfl, _, _, rfl, rfl, rfl, hh⟩) hd⟩
/-- two signatures, and what may be a reading -/
def RdPre (K : PySem.W.Frag) (z : (List (Str × Nat) × List (Str × Nat)) × Rt) (vs : List V) (H : Hp) : Prop := (∃ u o v, vs = [u, o, v] ∧ FSig K H u z.1.1 ∧ FSig K H o z.1.2 ∧ RtV K H z.1.2 z.2 v) ∧ SigOk z.1.1 ∧ SigOk z.1.2 ∧ z.2.fits z.1.2
theorem RdPre.ex {z : (List (Str × Nat) × List (Str × Nat)) × Rt} {vs : List V} (e : Ex H H') (h : RdPre K z vs H) : RdPre K z vs H' := let ⟨⟨u, o, v, q, a, b, r⟩, s⟩ := h; ⟨⟨u, o, v, q, a.ex e, b.ex e, r.ex e⟩, s⟩
def sp_reading_any (K : PySem.W.Frag) : Sp := spX (RdPre K) (fun z v H => Dp K H v (rdW z.1.1 z.2))
theorem rd_bad {bs : List Bt} {i : Nat} (l : bs.length = sg.length) (hi : i < sg.length) (good : ∀ j, j < i → rdB (plOf sg j) (bs.getD j (.odd .none)) = true) (bad : rdB (plOf sg i) (bs.getD i (.odd .none)) = false) : rdW sg (.row bs) = dK2 "deed" i := by
  obtain ⟨rr, h⟩ : ∃ rr, rdAt sg bs = i :: rr := filt_first hi (fun j hj => by rw [good j hj]; rfl) (by rw [bad]; rfl)
  rw [rdW, if_pos l, h]
theorem rd_good {bs : List Bt} (l : bs.length = sg.length) (good : ∀ j, j < sg.length → rdB (plOf sg j) (bs.getD j (.odd .none)) = true) : rdW sg (.row bs) = .none := by
  have h : rdAt sg bs = [] := filt_none (fun j hj => by rw [good j hj]; rfl)
  rw [rdW, if_pos l, h]
theorem dp_dK2 {r : Addr} {z : Str} {i : Nat} (h : H r = some (.tup [.str z, vi i])) : Dp K H (.ref r) (dK2 z i) := .tup (st_of h) (.cons (.str _) (.cons (.int _) .nil))
theorem c_reading_any (T : Txt mg) (D : Df K mg "reading_wrong" s_reading_wrong ["signature", "other", "thing"]) (c_need_signature : Cl P w K mg base 5 "need_signature" (sp_need_signature K)) (c_is_rd : Cl P w K mg base 3 "is_reading_of_deed" (sp_is_rd K)) : Cl P w K mg base 6 "reading_wrong" (sp_reading_any K) := by
  refine cl_of (k := 5) D sc_reading_wrong (fun vs H Q E h => ?_) (fun f cdv A outer s H vs Q E hr h => ?_)
  · obtain ⟨z, ⟨⟨u, o, v, rfl, _⟩, _⟩, _⟩ := h
    rfl
  · obtain ⟨⟨⟨sg, sg2⟩, th⟩, ⟨⟨u, o, v, rfl, hF, hG, tv⟩, so, so2, fit⟩, q⟩ := h
    have c_is_reading_of_deed := c_is_rd
    refine ⟨_, (pss_cons (ps_expr (pe_cl c_need_signature hr (by first | decide | omega) (by rfl) (pa_cons (pv 0) pa_nil)))
      (pss_cons (ps_expr (pe_cl c_need_signature hr (by first | decide | omega) (by rfl) (pa_cons (pv 1) pa_nil)))
      (pss_cons (ps_if (PW.pt (pw_or (pt_not (pt_val (pe_callB call_isi (by rfl) T.z_isinstance (by decide +kernel) (pa_cons (pv 2) (pa_cons (pe_ty "tuple" (by rfl) T.z_tuple (by decide +kernel)) pa_nil))))) (pw_or1 (pt_cmpR op_ne (pe_callB call_len_seq (by rfl) T.z_len PySem.boot_len (pa_cons (pv 2) pa_nil)) (pe_callB call_len_seq (by rfl) T.z_len PySem.boot_len (pa_cons (pv 0) pa_nil)) (nomark _)))))
        (pss_one (ps_ret (pe_tup (pa_cons pe_str pa_nil))))
        pss_nil)
      (pss_cons (ps_set (i := 3) sc_reading_wrong.nd rfl (.inl rfl) (pe_callTy (call_dictT rfl) (by rfl) T.z_dict (by decide +kernel) (pa_cons (pv 1) pa_nil)))
      (pss_cons (ps_for PassesOwn.never (by rfl) (pi_enumT (by rfl) T.z_enumerate (pa_cons (pv 0) pa_nil)) (pg_tup (by rfl) (pgs_cons (pg_name (i := 4) sc_reading_wrong.nd rfl (.inl rfl)) (pgs_cons (pg_name (i := 5) sc_reading_wrong.nd rfl (.inl rfl)) pgs_nil)))
        (pss_one (ps_if (pt_not (pt_val (pe_cl c_is_reading_of_deed hr (by first | decide | omega) (by rfl) (pa_cons (pe_ix ix_tup (pv 5) pe_int (fun _ _ => rfl)) (pa_cons (pv 3) (pa_cons (pe_ix ix_tup (pv 2) (pv 4) (fun _ _ => rfl)) pa_nil))))))
          (pss_one (ps_ret (pe_tup (pa_cons pe_str (pa_cons (pv 4) pa_nil)))))
          pss_nil)))
      (pss_one (ps_ret pe_non))))))), ?_⟩
    replace hF : FSig K H u sg := hF
    replace hG : FSig K H o sg2 := hG
    replace tv : RtV K H sg2 th v := tv
    replace so : SigOk sg := so
    replace so2 : SigOk sg2 := so2
    replace fit : th.fits sg2 := fit
    replace q : ∀ r H', Ex H H' → Dp K H' r (rdW sg th) → Q r H' := q
    refine q_drop (ev_callV (v := .non) sg (ea_cons (ev_var rfl) ea_nil) (fun H1 e1 => ⟨⟨_, rfl, (hF.ex e1).sig⟩, so⟩) (fun _ _ p => p)) fun H1 e1 => ?_
    refine q_drop (ev_callV (v := .non) sg2 (ea_cons (ev_var rfl) ea_nil) (fun H2 e2 => ⟨⟨_, rfl, (hG.ex (e1.trans e2)).sig⟩, so2⟩) (fun _ _ p => p)) fun H2 e2 => ?_
    have e02 := e1.trans e2
    have isodd : ∀ {H3 : Hp}, Ex H2 H3 → rdW sg th = rdOdd → tRet (tTup (tCons (tC (.str "reading")) tNil)) { nx := fun _ H' => Q .non H', rt := Q } [some u, some o, some v, none, none, none] H3 := fun {H3} e3 hw => s_retU (eu_tup (vs := [.str "reading"]) (ea_cons ev_c ea_nil) (by show 1 ≤ 100000; decide)) fun r H4 _ e4 hr4 => q _ H4 (e02.trans (e3.trans e4)) (by rw [hw]; exact .tup (st_of hr4) (.cons (.str _) .nil))
    cases th with
    | odd d => exact q_when (b := true) (et_is (et_or (a := true) (b := false) (et_is (et_not (et_val (ev_noTu (K := K) (ev_var rfl) ev_c (tv.2.ex e02)))) rfl) (fun z => by cases z)) rfl) (fun _ H3 e3 => isodd e3 rfl) (fun hb => by cases hb)
    | row bs =>
      obtain ⟨a, us, rfl, sa, rb⟩ := tv
      obtain ⟨boks2, szb, lb8⟩ := fit
      have lub := rb.len
      obtain ⟨sa1, o1, ps, rfl, hsa, sod, prs⟩ := id hF
      have sqS : SqT K H sa1 (ps.map V.ref) := .inl (.inr ⟨o1, hsa⟩)
      have lps := paired_len prs
      refine q_when (b := !decide (us.length = ps.length)) (et_is (et_or (a := false) (b := !decide (us.length = ps.length)) (et_is (et_not (et_val (ev_isi (ev_var rfl) ev_c (.ty _) (fun _ e => tyx_tup (ex_t (e02.trans e) sa)) kit_tt))) rfl) (fun _ => ne_len (K := K) (ev_var rfl) (ex_t e02 sa) (ev_is (ev_lenT (ev_var rfl) (ex_t e02 sqS)) (by rw [List.length_map])))) (by rw [Bool.false_or])) (fun hb H3 e3 => ?_) (fun hb H3 e3 => ?_)
      · rw [Bool.not_eq_true', decide_eq_false_iff_not] at hb
        exact isodd e3 (by rw [rdW, if_neg (by omega)])
      · rw [Bool.not_eq_false', decide_eq_true_eq] at hb
        have lbs : bs.length = sg.length := by omega
        have e03 := e02.trans e3
        obtain ⟨oa, oo, ops, rfl, hoa, ood, oprs⟩ := hG.ex e03
        refine do_set (do_cb (do_cons (do_ev (ev_var rfl) fun H4 e4 => ?_)))
        refine ⟨oa, oo, ops, kvsOf sg2, rfl, e4 _ _ hoa, ood, paired_mapR (f := fun d : Str × Nat => ((Sum.inr d.1 : Key), vi d.2)) (fun _ _ z => ex_t e4 z) oprs, fun d nd => ?_⟩
        have x5 : Ex H (upd H4 d (.dK (mergeK [] (kvsOf sg2)))) := (e03.trans e4).trans (Ex.new nd)
        have nds : ((([] : List (Key × V)) ++ kvsOf sg2).map (·.1)).Nodup := by
          rw [List.nil_append]
          exact kvs_nodup so2.nd
        have plc : PlcX (upd H4 d (.dK (mergeK [] (kvsOf sg2)))) d sg2 := ⟨_, upd_same, fun p hp => val_merge sg2 [] p.1 p.2 so2.nd (.inl hp), fun x hx => by
          rw [merge_new nds, List.nil_append]
          exact val_none fun z => hx (kvs_keys z)⟩
        generalize upd H4 d (.dK (mergeK [] (kvsOf sg2))) = H5 at *
        show tSeq _ _ _ [some (.ref sa1), some (.ref oa), some (.ref a), some (.ref d), none, none] H5
        refine q_enumT (K := K) (ea_cons (ev_var rfl) ea_nil) (ex_t x5 sqS) (fun i σ H' => Ex H5 H' ∧ (∀ j, j < i → rdB (plOf sg j) (bs.getD j (.odd .none)) = true) ∧ ∃ y4 y5, σ = [some (.ref sa1), some (.ref oa), some (.ref a), some (.ref d), y4, y5]) (fun H6 e6 => ⟨e6, fun j hj => absurd hj (Nat.not_lt_zero _), none, none, rfl⟩) (fun i σ H' _ ⟨e, _⟩ => ex_t (x5.trans e) sqS) (fun i x σ H6 H7 hx ⟨e, good, y4, y5, hσ⟩ e7 => ?_) (fun σ H6 ⟨e6, good, y4, y5, hσ⟩ => ?_)
        · subst hσ
          have ip : i < ps.length := by
            have := (List.getElem?_eq_some_iff.mp hx).1
            rw [List.length_map] at this
            exact this
          rw [List.getElem?_map, List.getElem?_eq_getElem ip] at hx
          cases Option.some.inj hx
          obtain ⟨dd, ed, hdd⟩ := paired_at prs (List.getElem?_eq_getElem ip)
          have pl2 : dd.2 ≤ 2 := so.pl _ (List.mem_iff_getElem?.mpr ⟨i, ed⟩)
          have gpl : plOf sg i = dd.2 := by
            rw [plOf, List.getD_eq_getElem?_getD, ed]
            rfl
          have e57 := e.trans e7
          have e07 := x5.trans e57
          have ib : i < bs.length := by omega
          obtain ⟨x, hxu, bv⟩ := rb.put ib
          have gb : bs.getD i (.odd .none) = bs[i] := by rw [List.getD_eq_getElem?_getD, List.getElem?_eq_getElem ib]; rfl
          show tIfS _ _ _ _ [some (.ref sa1), some (.ref oa), some (.ref a), some (.ref d), some (vi i), some (.ref ps[i])] H7
          refine s_when (b := !rdB dd.2 bs[i]) (et_not (et_val (ev_callV (v := .bl (rdB dd.2 bs[i])) (sg2, dd.2, bs[i]) (ea_cons (ev_op (ev_var rfl) ev_c (rv_ixT (K := K) (ex_t e07 hdd) (atI_vi (k := 1) rfl))) (ea_cons (ev_var rfl) (ea_cons (ev_op (ev_var rfl) (ev_var rfl) (rv_ixT (K := K) (ex_t e07 sa) (atI_nat hxu))) ea_nil))) (fun H8 e8 => ⟨⟨d, x, rfl, plc.ex (e57.trans e8), bv.ex (e07.trans e8)⟩, boks_get ib boks2, so2.nd, szb _ (List.getElem_mem ib), pl2⟩) (fun _ _ p => p)))) (fun hb2 H8 e8 => ?_) (fun hb2 H8 e8 => ⟨e57.trans e8, fun j hj => ?_, _, _, rfl⟩)
          · rw [Bool.not_eq_true'] at hb2
            exact s_retU (eu_tup (vs := [.str "deed", vi i]) (ea_cons ev_c (ea_cons (ev_var rfl) ea_nil)) (by show 2 ≤ 100000; decide)) fun r2 H9 _ e9 hr9 => q _ H9 ((e07.trans e8).trans e9) (by
              rw [rd_bad lbs (by omega) good (by rw [gb, gpl]; exact hb2)]
              exact dp_dK2 hr9)
          · rw [Bool.not_eq_false'] at hb2
            by_cases z : j < i
            · exact good j z
            · rw [show j = i by omega, gb, gpl]
              exact hb2
        · subst hσ
          rw [List.length_map] at good
          exact s_ret ev_c fun H7 e7 => q _ H7 (x5.trans (e6.trans e7)) (by
            rw [rd_good lbs (fun j hj => good j (by omega))]
            exact .non)
/-- what the law awaits -/
theorem c_due (T : Txt mg) (D : Df K mg "_law_due" s__law_due ["_law_sig", "_law_other", "_law_thing"]) (c_term_any : Cl P w K mg base 6 "term_wrong" (sp_term_any K)) (c_letters : Cl P w K mg base 11 "_law_letters" (sp_letters K 9)) : Cl P w K mg base 12 "_law_due" (sp_reading_any K) := by
  refine cl_of (k := 11) D sc__law_due (fun vs H Q E h => ?_) (fun f cdv A outer s H vs Q E hr h => ?_)
  · obtain ⟨z, ⟨⟨u, o, v, rfl, _⟩, _⟩, _⟩ := h
    rfl
  · obtain ⟨⟨⟨sg, sg2⟩, th⟩, ⟨⟨u, o, v, rfl, hF, hG, tv⟩, so, so2, fit⟩, q⟩ := h
    have c_term_wrong := c_term_any
    refine ⟨_, (pss_cons (ps_if (PW.pt (pw_or (pt_not (pt_val (pe_callB call_isi (by rfl) T.z_isinstance (by decide +kernel) (pa_cons (pv 2) (pa_cons (pe_ty "tuple" (by rfl) T.z_tuple (by decide +kernel)) pa_nil))))) (pw_or1 (pt_cmpR op_ne (pe_callB call_len_seq (by rfl) T.z_len PySem.boot_len (pa_cons (pv 2) pa_nil)) (pe_callB call_len_seq (by rfl) T.z_len PySem.boot_len (pa_cons (pv 0) pa_nil)) (nomark _)))))
        (pss_one (ps_ret (pe_tup (pa_cons pe_str pa_nil))))
        pss_nil)
      (pss_cons (ps_for PassesOwn.never (by rfl) (pi_enumT (by rfl) T.z_enumerate (pa_cons (pv 0) pa_nil)) (pg_tup (by rfl) (pgs_cons (pg_name (i := 3) sc__law_due.nd rfl (.inl rfl)) (pgs_cons (pg_tup (by rfl) (pgs_cons (pg_name (i := 4) sc__law_due.nd rfl (.inl rfl)) (pgs_cons (pg_name (i := 5) sc__law_due.nd rfl (.inr rfl)) pgs_nil))) pgs_nil)))
        (pss_cons (ps_if (pt_cmpR op_notN (pe_cl c_term_wrong hr (by first | decide | omega) (by rfl) (pa_cons (pv 1) (pa_cons (pe_ix ix_tup (pv 2) (pv 3) (fun _ _ => rfl)) pa_nil))) pe_non (nomark _))
          (pss_one (ps_ret (pe_tup (pa_cons pe_str (pa_cons (pv 3) pa_nil)))))
          pss_nil)
        (pss_one (ps_if (pt_cmpR (op_neD hr.units) (pe_lc (own := [("_law_x", 6)]) (g := (gName 6)) (by rfl) sc__law_due.nd (pi_str (pe_cl c_letters hr (by first | decide | omega) (by rfl) (pa_cons (pe_ix ix_tup (pv 2) (pv 3) (fun _ _ => rfl)) pa_nil))) (blkOk_by (own := [("_law_x", 6)]) (N := ["_law_sig", "_law_other", "_law_thing", "_law_k", "_law_word_here", "_law_places", "_law_x"]) (sc := defScope s__law_due) (by decide +kernel)) (fun _ _ _ _ _ => (pg_name (i := 6) sc__law_due.nd rfl (.inl rfl))) (fun _ _ _ _ _ => (pts_one (pt_cmpR op_notIn_sign (pv 6) (pe_slice sl_str pe_str po_none (po_some (pv 5))) (by rfl)))) (fun _ _ _ _ _ => (pv 6))) (pe_lst pa_nil) (nomark _))
          (pss_one (ps_ret (pe_tup (pa_cons pe_str (pa_cons (pv 3) pa_nil)))))
          pss_nil))))
      (pss_one (ps_ret pe_non)))), ?_⟩
    replace hF : FSig K H u sg := hF
    replace hG : FSig K H o sg2 := hG
    replace tv : RtV K H sg2 th v := tv
    replace so : SigOk sg := so
    replace so2 : SigOk sg2 := so2
    replace fit : th.fits sg2 := fit
    replace q : ∀ r H', Ex H H' → Dp K H' r (rdW sg th) → Q r H' := q
    have isodd : ∀ {H3 : Hp}, Ex H H3 → rdW sg th = rdOdd → tRet (tTup (tCons (tC (.str "reading")) tNil)) { nx := fun _ H' => Q .non H', rt := Q } [some u, some o, some v, none, none, none, none] H3 := fun {H3} e3 hw => s_retU (eu_tup (vs := [.str "reading"]) (ea_cons ev_c ea_nil) (by show 1 ≤ 100000; decide)) fun r H4 _ e4 hr4 => q _ H4 (e3.trans e4) (by rw [hw]; exact .tup (st_of hr4) (.cons (.str _) .nil))
    cases th with
    | odd d => exact q_when (b := true) (et_is (et_or (a := true) (b := false) (et_is (et_not (et_val (ev_noTu (K := K) (ev_var rfl) ev_c tv.2))) rfl) (fun z => by cases z)) rfl) (fun _ H3 e3 => isodd e3 rfl) (fun hb => by cases hb)
    | row bs =>
      obtain ⟨a, us, rfl, sa, rb⟩ := tv
      obtain ⟨boks2, szb, lb8⟩ := fit
      have lub := rb.len
      obtain ⟨sa1, o1, ps, rfl, hsa, sod, prs⟩ := id hF
      have sqS : SqT K H sa1 (ps.map V.ref) := .inl (.inr ⟨o1, hsa⟩)
      have lps := paired_len prs
      refine q_when (b := !decide (us.length = ps.length)) (et_is (et_or (a := false) (b := !decide (us.length = ps.length)) (et_is (et_not (et_val (ev_isi (ev_var rfl) ev_c (.ty _) (fun _ e => tyx_tup (ex_t e sa)) kit_tt))) rfl) (fun _ => ne_len (K := K) (ev_var rfl) sa (ev_is (ev_lenT (ev_var rfl) sqS) (by rw [List.length_map])))) (by rw [Bool.false_or])) (fun hb H3 e3 => ?_) (fun hb H3 e3 => ?_)
      · rw [Bool.not_eq_true', decide_eq_false_iff_not] at hb
        exact isodd e3 (by rw [rdW, if_neg (by omega)])
      · rw [Bool.not_eq_false', decide_eq_true_eq] at hb
        have lbs : bs.length = sg.length := by omega
        refine q_enumTP (K := K) (ea_cons (ev_var rfl) ea_nil) (ex_t e3 sqS) (fun i σ H' => Ex H H' ∧ (∀ j, j < i → rdB (plOf sg j) (bs.getD j (.odd .none)) = true) ∧ ∃ y3 y4 y5, σ = [some (.ref sa1), some o, some (.ref a), y3, y4, y5, none]) (fun H6 e6 => ⟨e3.trans e6, fun j hj => absurd hj (Nat.not_lt_zero _), none, none, none, rfl⟩) (fun i σ H' _ ⟨e, _⟩ => ex_t e sqS) (fun i x σ H6 H7 hx ⟨e, good, y3, y4, y5, hσ⟩ e7 => ?_) (fun σ H6 ⟨e6, good, y3, y4, y5, hσ⟩ => ?_)
        · subst hσ
          have ip : i < ps.length := by
            have := (List.getElem?_eq_some_iff.mp hx).1
            rw [List.length_map] at this
            exact this
          rw [List.getElem?_map, List.getElem?_eq_getElem ip] at hx
          cases Option.some.inj hx
          obtain ⟨dd, ed, hdd⟩ := paired_at prs (List.getElem?_eq_getElem ip)
          obtain ⟨nm, pl⟩ := dd
          have pl2 : pl ≤ 2 := so.pl _ (List.mem_iff_getElem?.mpr ⟨i, ed⟩)
          have gpl : plOf sg i = pl := by
            rw [plOf, List.getD_eq_getElem?_getD, ed]
            rfl
          have e07 := e.trans e7
          have ib : i < bs.length := by omega
          obtain ⟨x, hxu, bv⟩ := rb.put ib
          have gb : bs.getD i (.odd .none) = bs[i] := by rw [List.getD_eq_getElem?_getD, List.getElem?_eq_getElem ib]; rfl
          have sz8 := szb _ (List.getElem_mem ib)
          have okb := boks_get ib boks2
          refine ⟨ps[i], _, _, rfl, ex_t e07 hdd, ?_⟩
          show tSeq _ _ _ [some (.ref sa1), some o, some (.ref a), some (vi i), some (.str nm), some (vi pl), none] H7
          have bad : ∀ {H8 : Hp}, Ex H7 H8 → rdB pl bs[i] = false → tRet (tTup (tCons (tC (.str "deed")) (tCons (tVar 3) tNil))) { nx := fun _ H' => Q .non H', rt := Q } [some (.ref sa1), some o, some (.ref a), some (vi i), some (.str nm), some (vi pl), none] H8 := fun {H8} e8 hb2 => s_retU (eu_tup (vs := [.str "deed", vi i]) (ea_cons ev_c (ea_cons (ev_var rfl) ea_nil)) (by show 2 ≤ 100000; decide)) fun r2 H9 _ e9 hr9 => q _ H9 ((e07.trans e8).trans e9) (by
              rw [rd_bad lbs (by omega) good (by rw [gb, gpl]; exact hb2)]
              exact dp_dK2 hr9)
          have call := ep_call (pre := BPre K) (post := fun p v H => Dp K H v (wrongL (p.2.met []))) (E := E0) (sg2, bs[i]) (ea_cons (ev_var (σ := [some (.ref sa1), some o, some (.ref a), some (vi i), some (.str nm), some (vi pl), none]) (H := H7) (i := 1) rfl) (ea_cons (ev_op (ev_var (i := 2) rfl) (ev_var (i := 3) rfl) (rv_ixT (K := K) (ex_t e07 sa) (atI_nat hxu))) ea_nil)) (fun H8 e8 => ⟨⟨o, x, rfl, hG.ex (e07.trans e8), bv.ex (e07.trans e8)⟩, so2, okb, by show (bs[i]).sz ≤ 100; omega⟩)
          cases al : (bs[i]).all with
          | false => exact q_when (b := true) (et_isNP (call.imp fun r H1 _ y => w_ref (show Dp K H1 r (wrongL ((bs[i]).met [])) from y) (wrong_some al) (wrongL_tup _))) (fun _ H8 e8 => bad e8 (by rw [rdB, al]; rfl)) (fun hb => by cases hb)
          | true =>
            refine q_when (b := false) (et_is (et_isN (ev_ep (call.imp fun r H1 _ y => by
              have z : Dp K H1 r (wrongL ((bs[i]).met [])) := y
              rw [wrong_none (by omega) al] at z
              cases z
              exact rfl))) (by decide)) (fun hb => by cases hb) (fun _ H8 e8 => ?_)
            have e08 := e07.trans e8
            have tm := (bv.ex e08).tm al
            have sub : ∀ x ∈ fewB pl bs[i], x ∈ vars := fun x hx => (List.mem_filter.mp (List.mem_filter.mp hx).1).1
            have l6 : (fewB pl bs[i]).length ≤ 6 := Nat.le_trans (List.length_filter_le ..) (List.length_filter_le ..)
            have hg : ((bs[i]).tm).hgt ≤ ((bs[i]).tm).sz := hgt_sz _
            have szt : ((bs[i]).tm).sz = (bs[i]).sz := tm_sz
            have lz : (ltx (bs[i]).tm).length ≤ 1000 := by
              have : (lts (ltx (bs[i]).tm)).length = (ltx (bs[i]).tm).length := by rw [lts, List.length_map, Array.length_toList]; rfl
              rw [← this, lts_ltx]
              have : (inner (bs[i]).tm).length ≤ 6 := List.length_filter_le ..
              omega
            have el := el_oddl (σ := [some (.ref sa1), some o, some (.ref a), some (vi i), some (.str nm), some (vi pl), none]) (H := H8) (j := 6) (i := 5) lz pl2 (ev_callV (pre := fun (tm : Tm) vs H => (∃ v, vs = [v] ∧ TmV K H tm v) ∧ tm.hgt < 9 ∧ tm.sz ≤ 1000) (post := fun tm v _ => v = .str (ltx tm)) (E := E0) (bs[i]).tm (ea_cons (ev_op (ev_var (i := 2) rfl) (ev_var (i := 3) rfl) (rv_ixT (K := K) (ex_t e08 sa) (atI_nat hxu))) ea_nil) (fun H9 e9 => ⟨⟨_, rfl, TmV.ex e9 tm⟩, by show ((bs[i]).tm).hgt < 9; omega, by show ((bs[i]).tm).sz ≤ 1000; omega⟩) (fun _ _ p => p)) (fun _ => rfl) (fun _ => rfl) (fun _ => rfl)
            rw [lts_ltx] at el
            refine s_when (b := !(fewB pl bs[i]).isEmpty) (et_neNilL (K := K) el sub l6) (fun hb2 H9 e9 => ?_) (fun hb2 H9 e9 => ⟨e08.trans e9, fun j hj => ?_, _, _, _, rfl⟩)
            · rw [Bool.not_eq_true'] at hb2
              exact bad (e8.trans e9) (by rw [rdB, al, Bool.true_and, ← few_all]; exact hb2)
            · rw [Bool.not_eq_false'] at hb2
              by_cases z : j < i
              · exact good j z
              · rw [show j = i by omega, gb, gpl, rdB, al, Bool.true_and, ← few_all]
                exact hb2
        · subst hσ
          rw [List.length_map] at good
          exact s_ret ev_c fun H7 e7 => q _ H7 (e6.trans e7) (by
            rw [rd_good lbs (fun j hj => good j (by omega))]
            exact .non)
end
end K11
end
section
namespace K11
open PySem PySem.Spec PyProof.Rows L2 Evl RZ Dw M20
section
variable {P : Program} {w : World} {K : PySem.W.Frag} {mg : Str → Option Value} {base : Heap} {σ : L2.St} {H H' Hb : Hp} {p c : Addr} {n m k W : Nat} {v : V} {d : PyData} {C : Nat → Addr} {G0 S0 E0 : Addr}
/-- two signatures, the first or the second no signature, ahead of more -/
def S2Pre (K : PySem.W.Frag) (n : Nat) (z : ((Addr × Addr) × PyData) × Option (List (Str × Nat))) (vs : List V) (H : Hp) : Prop := Gb 50 100000 z.1.2 ∧ sigW z.1.2 ≠ .none ∧ ∃ u o r, vs = u :: o :: r ∧ r.length = n ∧ ((z.2 = none ∧ Dz K z.1.1.1 z.1.1.2 H u z.1.2) ∨ ∃ sg, z.2 = some sg ∧ FSig K H u sg ∧ SigOk sg ∧ Dz K z.1.1.1 z.1.1.2 H o z.1.2)
theorem S2Pre.ex {z : ((Addr × Addr) × PyData) × Option (List (Str × Nat))} {vs : List V} (e : Ex H H') (h : S2Pre K n z vs H) : S2Pre K n z vs H' := let ⟨a, b, u, o, r, q, l, x⟩ := h; ⟨a, b, u, o, r, q, l, x.imp (fun y => ⟨y.1, y.2.ex e⟩) (fun ⟨sg, y, f, g, dz⟩ => ⟨sg, y, f.ex e, g, dz.ex e⟩)⟩
theorem c_reading_wrongS (T : Txt mg) (D : Df K mg "reading_wrong" s_reading_wrong ["signature", "other", "thing"]) (c_need_signature : Cl P w K mg base 5 "need_signature" (sp_need_signature K)) (c_need_signatureS : ClX P w K mg base 5 "need_signature" (spE S0 (SPreX K 0))) : ClX P w K mg base 6 "reading_wrong" (spE S0 (S2Pre K 1)) := by
  refine clx_of (k := 5) D sc_reading_wrong (fun vs H Q E h => ?_) (fun f cdv A outer s H vs Q E hr h => ?_)
  · obtain ⟨z, ⟨_, _, u, o, r, rfl, l, _⟩, _⟩ := h
    rw [List.length_cons, List.length_cons, l]
    rfl
  · obtain ⟨⟨⟨⟨p, c⟩, d⟩, os⟩, ⟨g, bad, u, o, r, rfl, l, hh⟩, q⟩ := h
    obtain ⟨x, rfl⟩ := one_of l
    rcases hh with ⟨_, dz⟩ | ⟨sg, _, hF, so, dz⟩
    · refine ⟨_, (pss_cons (ps_expr (pe_clX c_need_signatureS (takes_of rfl rfl rfl rfl) hr (by first | decide | omega) (by rfl) (pa_cons (pv 0) pa_nil)))
      (pss_cons (ps_never)
      (pss_cons (ps_never)
      (pss_cons (ps_never)
      (pss_cons (ps_never)
      (pss_one (ps_never))))))), ?_⟩
      exact do_try (W0 := fun _ => fun cls d _ H => E cls d H) ((ea_cons (ev_var rfl) ea_nil) H (Ex.refl _) _ fun H2 e2 => ⟨((p, c), d), ⟨⟨_, _, rfl, rfl, dz.ex e2⟩, g, bad⟩, fun H3 e3 => q H3 (e2.trans e3)⟩)
    · refine ⟨_, (pss_cons (ps_expr (pe_cl c_need_signature hr (by first | decide | omega) (by rfl) (pa_cons (pv 0) pa_nil)))
      (pss_cons (ps_expr (pe_clX c_need_signatureS (takes_of rfl rfl rfl rfl) hr (by first | decide | omega) (by rfl) (pa_cons (pv 1) pa_nil)))
      (pss_cons (ps_never)
      (pss_cons (ps_never)
      (pss_cons (ps_never)
      (pss_one (ps_never))))))), ?_⟩
      refine q_drop (ev_callV (v := .non) sg (ea_cons (ev_var rfl) ea_nil) (fun H1 e1 => ⟨⟨_, rfl, (hF.ex e1).sig⟩, so⟩) (fun _ _ p => p)) fun H1 e1 => ?_
      exact do_try (W0 := fun _ => fun cls d _ H => E cls d H) ((ea_cons (ev_var rfl) ea_nil) H1 (Ex.refl _) _ fun H2 e2 => ⟨((p, c), d), ⟨⟨_, _, rfl, rfl, dz.ex (e1.trans e2)⟩, g, bad⟩, fun H3 e3 => q H3 ((e1.trans e2).trans e3)⟩)
theorem c_two_readS (T : Txt mg) (D : Df K mg "two_read" s_two_read ["first", "second", "third", "one", "two"]) (c_need_signature : Cl P w K mg base 5 "need_signature" (sp_need_signature K)) (c_need_signatureS : ClX P w K mg base 5 "need_signature" (spE S0 (SPreX K 0))) : ClX P w K mg base 8 "two_read" (spE S0 (S2Pre K 3)) := by
  refine clx_of (k := 7) D sc_two_read (fun vs H Q E h => ?_) (fun f cdv A outer s H vs Q E hr h => ?_)
  · obtain ⟨z, ⟨_, _, u, o, r, rfl, l, _⟩, _⟩ := h
    rw [List.length_cons, List.length_cons, l]
    rfl
  · obtain ⟨⟨⟨⟨p, c⟩, d⟩, os⟩, ⟨g, bad, u, o, r, rfl, l, hh⟩, q⟩ := h
    obtain ⟨x, y, w, rfl⟩ := three_of l
    rcases hh with ⟨_, dz⟩ | ⟨sg, _, hF, so, dz⟩
    · refine ⟨_, (pss_cons (ps_expr (pe_clX c_need_signatureS (takes_of rfl rfl rfl rfl) hr (by first | decide | omega) (by rfl) (pa_cons (pv 0) pa_nil)))
      (pss_cons (ps_never)
      (pss_cons (ps_never)
      (pss_cons (ps_never)
      (pss_cons (ps_never)
      (pss_cons (ps_never)
      (pss_one (ps_never)))))))), ?_⟩
      exact do_try (W0 := fun _ => fun cls d _ H => E cls d H) ((ea_cons (ev_var rfl) ea_nil) H (Ex.refl _) _ fun H2 e2 => ⟨((p, c), d), ⟨⟨_, _, rfl, rfl, dz.ex e2⟩, g, bad⟩, fun H3 e3 => q H3 (e2.trans e3)⟩)
    · refine ⟨_, (pss_cons (ps_expr (pe_cl c_need_signature hr (by first | decide | omega) (by rfl) (pa_cons (pv 0) pa_nil)))
      (pss_cons (ps_expr (pe_clX c_need_signatureS (takes_of rfl rfl rfl rfl) hr (by first | decide | omega) (by rfl) (pa_cons (pv 1) pa_nil)))
      (pss_cons (ps_never)
      (pss_cons (ps_never)
      (pss_cons (ps_never)
      (pss_cons (ps_never)
      (pss_one (ps_never)))))))), ?_⟩
      refine q_drop (ev_callV (v := .non) sg (ea_cons (ev_var rfl) ea_nil) (fun H1 e1 => ⟨⟨_, rfl, (hF.ex e1).sig⟩, so⟩) (fun _ _ p => p)) fun H1 e1 => ?_
      exact do_try (W0 := fun _ => fun cls d _ H => E cls d H) ((ea_cons (ev_var rfl) ea_nil) H1 (Ex.refl _) _ fun H2 e2 => ⟨((p, c), d), ⟨⟨_, _, rfl, rfl, dz.ex (e1.trans e2)⟩, g, bad⟩, fun H3 e3 => q H3 ((e1.trans e2).trans e3)⟩)
theorem c_need_readingS (T : Txt mg) (D : Df K mg "need_reading" s_need_reading ["signature", "other", "reading"]) (c_reading_wrongS : ClX P w K mg base 6 "reading_wrong" (spE S0 (S2Pre K 1))) : ClX P w K mg base 7 "need_reading" (spE S0 (S2Pre K 1)) := by
  refine clx_of (k := 6) D sc_need_reading (fun vs H Q E h => ?_) (fun f cdv A outer s H vs Q E hr h => ?_)
  · obtain ⟨z, ⟨_, _, u, o, r, rfl, l, _⟩, _⟩ := h
    rw [List.length_cons, List.length_cons, l]
    rfl
  · obtain ⟨z, hz, q⟩ := h
    obtain ⟨_, _, u, o, r, rfl, l, _⟩ := id hz
    obtain ⟨x, rfl⟩ := one_of l
    refine ⟨_, (pss_one (ps_if (pt_cmpR op_notN (pe_clX c_reading_wrongS (takes_of rfl rfl rfl rfl) hr (by first | decide | omega) (by rfl) (pa_cons (pv 0) (pa_cons (pv 1) (pa_cons (pv 2) pa_nil)))) pe_non (nomark _))
        (pss_one (ps_never))
        pss_nil)), ?_⟩
    exact s_ifX ((ea_cons (ev_var rfl) (ea_cons (ev_var rfl) (ea_cons (ev_var rfl) ea_nil))) H (Ex.refl _) _ fun H2 e2 => ⟨z, hz.ex e2, fun H3 e3 => q H3 (e2.trans e3)⟩)
/-- what is no reading -/
def RbPre (K : PySem.W.Frag) (z : (List (Str × Nat) × List (Str × Nat)) × Rt) (vs : List V) (H : Hp) : Prop := RdPre K z vs H ∧ rdW z.1.1 z.2 ≠ .none
theorem RbPre.ex {z : (List (Str × Nat) × List (Str × Nat)) × Rt} {vs : List V} (e : Ex H H') (h : RbPre K z vs H) : RbPre K z vs H' := ⟨h.1.ex e, h.2⟩
/-- a reading -/
def RgPre (K : PySem.W.Frag) (z : (List (Str × Nat) × List (Str × Nat)) × Rt) (vs : List V) (H : Hp) : Prop := RdPre K z vs H ∧ rdW z.1.1 z.2 = .none
theorem RgPre.ex {z : (List (Str × Nat) × List (Str × Nat)) × Rt} {vs : List V} (e : Ex H H') (h : RgPre K z vs H) : RgPre K z vs H' := ⟨h.1.ex e, h.2⟩
theorem rdW_tup (sg : List (Str × Nat)) (th : Rt) : rdW sg th = .none ∨ ∃ ds, rdW sg th = .tuple ds := by
  unfold rdW
  split
  · exact .inr ⟨_, rfl⟩
  · split
    · split
      · exact .inl rfl
      · exact .inr ⟨_, rfl⟩
    · exact .inr ⟨_, rfl⟩
theorem c_need_readingR (T : Txt mg) (D : Df K mg "need_reading" s_need_reading ["signature", "other", "reading"]) (en : ExcT K mg "NoReading" E0) (c_reading_any : Cl P w K mg base 6 "reading_wrong" (sp_reading_any K)) : ClX P w K mg base 7 "need_reading" (spE E0 (RbPre K)) := by
  refine clx_of (k := 6) D sc_need_reading (fun vs H Q E h => ?_) (fun f cdv A outer s H vs Q E hr h => ?_)
  · obtain ⟨z, ⟨⟨⟨u, o, v, rfl, _⟩, _⟩, _⟩, _⟩ := h
    rfl
  · obtain ⟨z, hz, q⟩ := h
    obtain ⟨⟨⟨u, o, v, rfl, _⟩, _⟩, bad⟩ := id hz
    have c_reading_wrong := c_reading_any
    refine ⟨_, (pss_one (ps_if (pt_cmpR op_notN (pe_cl c_reading_wrong hr (by first | decide | omega) (by rfl) (pa_cons (pv 0) (pa_cons (pv 1) (pa_cons (pv 2) pa_nil)))) pe_non (nomark _))
        (pss_one (ps_raise rfl (takes_of rfl rfl rfl rfl) (pmk_own PySem.F.excBase_ValueError en.q en.g en.k (raises_own en.c.hs en.t) (by rfl))))
        pss_nil)), ?_⟩
    exact s_when (b := true) (et_isNP ((ep_call z (ea_cons (ev_var rfl) (ea_cons (ev_var rfl) (ea_cons (ev_var rfl) ea_nil))) (fun H1 e1 => hz.1.ex e1)).imp fun r H1 _ y => w_ref (show Dp K H1 r (rdW z.1.1 z.2) from y) bad (rdW_tup _ _))) (fun _ H1 e1 => q H1 e1) (fun hb => by cases hb)
def sp_need_readingG (K : PySem.W.Frag) : Sp := spX (RgPre K) (fun _ v _ => v = .non)
theorem c_need_readingG (T : Txt mg) (D : Df K mg "need_reading" s_need_reading ["signature", "other", "reading"]) (c_reading_any : Cl P w K mg base 6 "reading_wrong" (sp_reading_any K)) : Cl P w K mg base 7 "need_reading" (sp_need_readingG K) := by
  refine cl_of (k := 6) D sc_need_reading (fun vs H Q E h => ?_) (fun f cdv A outer s H vs Q E hr h => ?_)
  · obtain ⟨z, ⟨⟨⟨u, o, v, rfl, _⟩, _⟩, _⟩, _⟩ := h
    rfl
  · obtain ⟨z, hz, q⟩ := h
    obtain ⟨⟨⟨u, o, v, rfl, _⟩, _⟩, good⟩ := id hz
    have c_reading_wrong := c_reading_any
    refine ⟨_, (pss_one (ps_if (pt_cmpR op_notN (pe_cl c_reading_wrong hr (by first | decide | omega) (by rfl) (pa_cons (pv 0) (pa_cons (pv 1) (pa_cons (pv 2) pa_nil)))) pe_non (nomark _))
        (pss_one ps_never)
        pss_nil)), ?_⟩
    exact s_when (b := false) (et_is (et_isN (ev_ep ((ep_call z (ea_cons (ev_var rfl) (ea_cons (ev_var rfl) (ea_cons (ev_var rfl) ea_nil))) (fun H1 e1 => hz.1.ex e1)).imp fun r H1 _ y => by
      have y2 : Dp K H1 r (rdW z.1.1 z.2) := y
      rw [good] at y2
      cases y2
      exact rfl))) (by decide)) (fun hb => by cases hb) (fun _ H1 e1 => q _ H1 e1 rfl)
/-- one thing more behind three -/
def EPre {α : Type} (A : α → List V → Hp → Prop) (z : α) (vs : List V) (H : Hp) : Prop := ∃ u o v x, vs = [u, o, v, x] ∧ A z [u, o, v] H
theorem c_term_readE {α : Type} {A : α → List V → Hp → Prop} (eA : ∀ z vs H H', Ex H H' → A z vs H → A z vs H') (T : Txt mg) (D : Df K mg "term_read" s_term_read ["signature", "other", "reading", "term"]) (c_need_readingE : ClX P w K mg base 7 "need_reading" (spE E0 A)) : ClX P w K mg base 8 "term_read" (spE E0 (EPre A)) := by
  refine clx_of (k := 7) D sc_term_read (fun vs H Q E h => ?_) (fun f cdv AA outer s H vs Q E hr h => ?_)
  · obtain ⟨z, ⟨u, o, v, x, rfl, _⟩, _⟩ := h
    rfl
  · obtain ⟨z, ⟨u, o, v, x, rfl, hz⟩, q⟩ := h
    refine ⟨_, (pss_cons (ps_expr (pe_clX c_need_readingE (takes_of rfl rfl rfl rfl) hr (by first | decide | omega) (by rfl) (pa_cons (pv 0) (pa_cons (pv 1) (pa_cons (pv 2) pa_nil)))))
      (pss_cons (ps_never)
      (pss_one (ps_never)))), ?_⟩
    exact do_try (W0 := fun _ => fun cls d _ H => E cls d H) ((ea_cons (ev_var rfl) (ea_cons (ev_var rfl) (ea_cons (ev_var rfl) ea_nil))) H (Ex.refl _) _ fun H2 e2 => ⟨z, eA z _ _ _ e2 hz, fun H3 e3 => q H3 (e2.trans e3)⟩)
theorem c_model_readE {α : Type} {A : α → List V → Hp → Prop} (eA : ∀ z vs H H', Ex H H' → A z vs H → A z vs H') (T : Txt mg) (D : Df K mg "model_read" s_model_read ["signature", "other", "reading", "model"]) (c_need_readingE : ClX P w K mg base 7 "need_reading" (spE E0 A)) : ClX P w K mg base 8 "model_read" (spE E0 (EPre A)) := by
  refine clx_of (k := 7) D sc_model_read (fun vs H Q E h => ?_) (fun f cdv AA outer s H vs Q E hr h => ?_)
  · obtain ⟨z, ⟨u, o, v, x, rfl, _⟩, _⟩ := h
    rfl
  · obtain ⟨z, ⟨u, o, v, x, rfl, hz⟩, q⟩ := h
    refine ⟨_, (pss_cons (ps_expr (pe_clX c_need_readingE (takes_of rfl rfl rfl rfl) hr (by first | decide | omega) (by rfl) (pa_cons (pv 0) (pa_cons (pv 1) (pa_cons (pv 2) pa_nil)))))
      (pss_cons (ps_never)
      (pss_cons (ps_never)
      (pss_cons (ps_never)
      (pss_one (ps_never)))))), ?_⟩
    exact do_try (W0 := fun _ => fun cls d _ H => E cls d H) ((ea_cons (ev_var rfl) (ea_cons (ev_var rfl) (ea_cons (ev_var rfl) ea_nil))) H (Ex.refl _) _ fun H2 e2 => ⟨z, eA z _ _ _ e2 hz, fun H3 e3 => q H3 (e2.trans e3)⟩)
def GNPre (K : PySem.W.Frag) (z : (List (Str × Nat) × List (Str × Nat)) × Rt) (vs : List V) (H : Hp) : Prop := ∃ u o v, vs = [u, o, v, .non] ∧ RgPre K z [u, o, v] H
theorem c_term_readT (T : Txt mg) (D : Df K mg "term_read" s_term_read ["signature", "other", "reading", "term"]) (c_need_readingG : Cl P w K mg base 7 "need_reading" (sp_need_readingG K)) (c_need_termB : ClX P w K mg base 7 "need_term" (spE E0 (TmPre K))) : ClX P w K mg base 8 "term_read" (spE E0 (GNPre K)) := by
  refine clx_of (k := 7) D sc_term_read (fun vs H Q E h => ?_) (fun f cdv AA outer s H vs Q E hr h => ?_)
  · obtain ⟨z, ⟨u, o, v, rfl, _⟩, _⟩ := h
    rfl
  · obtain ⟨z, ⟨u, o, v, rfl, hz⟩, q⟩ := h
    have c_need_reading := c_need_readingG
    obtain ⟨⟨⟨u', o', v', ee, hF, _⟩, so, so2, _⟩, _⟩ := id hz
    cases ee
    refine ⟨_, (pss_cons (ps_expr (pe_cl c_need_reading hr (by first | decide | omega) (by rfl) (pa_cons (pv 0) (pa_cons (pv 1) (pa_cons (pv 2) pa_nil)))))
      (pss_cons (ps_expr (pe_clX c_need_termB (takes_of rfl rfl rfl rfl) hr (by first | decide | omega) (by rfl) (pa_cons (pv 0) (pa_cons (pv 3) pa_nil))))
      (pss_one (ps_never)))), ?_⟩
    refine q_drop (ev_callV (v := .non) z (ea_cons (ev_var rfl) (ea_cons (ev_var rfl) (ea_cons (ev_var rfl) ea_nil))) (fun H1 e1 => hz.ex e1) (fun _ _ p => p)) fun H1 e1 => ?_
    exact do_try (W0 := fun _ => fun cls d _ H => E cls d H) ((ea_cons (ev_var rfl) (ea_cons (ev_var rfl) ea_nil)) H1 (Ex.refl _) _ fun H2 e2 => ⟨(z.1.1, .odd .none), ⟨⟨⟨_, _, rfl, hF.ex (e1.trans e2), by
      show BtV K H2 z.1.1 (.odd .none) .non
      rw [BtV]
      exact ⟨.fl .non rfl, .tup .non⟩⟩, so, by show Bt.ok z.1.1 (.odd .none); rw [Bt.ok]; trivial, by show (Bt.odd .none).sz ≤ 100; rw [Bt.sz]; decide⟩, by
      show wrongL ((Bt.odd .none).met []) ≠ .none
      rw [odd_w]
      exact fun z => by cases z⟩, fun H3 e3 => q H3 ((e1.trans e2).trans e3)⟩)
theorem c_model_readM (T : Txt mg) (D : Df K mg "model_read" s_model_read ["signature", "other", "reading", "model"]) (c_need_readingG : Cl P w K mg base 7 "need_reading" (sp_need_readingG K)) (c_need_modelM : ClX P w K mg base 7 "need_model" (spE E0 (MBad K 0))) : ClX P w K mg base 8 "model_read" (spE E0 (GNPre K)) := by
  refine clx_of (k := 7) D sc_model_read (fun vs H Q E h => ?_) (fun f cdv AA outer s H vs Q E hr h => ?_)
  · obtain ⟨z, ⟨u, o, v, rfl, _⟩, _⟩ := h
    rfl
  · obtain ⟨z, ⟨u, o, v, rfl, hz⟩, q⟩ := h
    have c_need_reading := c_need_readingG
    obtain ⟨⟨⟨u', o', v', ee, hF, hG, _⟩, so, so2, _⟩, _⟩ := id hz
    cases ee
    refine ⟨_, (pss_cons (ps_expr (pe_cl c_need_reading hr (by first | decide | omega) (by rfl) (pa_cons (pv 0) (pa_cons (pv 1) (pa_cons (pv 2) pa_nil)))))
      (pss_cons (ps_expr (pe_clX c_need_modelM (takes_of rfl rfl rfl rfl) hr (by first | decide | omega) (by rfl) (pa_cons (pv 1) (pa_cons (pv 3) pa_nil))))
      (pss_cons (ps_never)
      (pss_cons (ps_never)
      (pss_one (ps_never)))))), ?_⟩
    refine q_drop (ev_callV (v := .non) z (ea_cons (ev_var rfl) (ea_cons (ev_var rfl) (ea_cons (ev_var rfl) ea_nil))) (fun H1 e1 => hz.ex e1) (fun _ _ p => p)) fun H1 e1 => ?_
    exact do_try (W0 := fun _ => fun cls d _ H => E cls d H) ((ea_cons (ev_var rfl) (ea_cons (ev_var rfl) ea_nil)) H1 (Ex.refl _) _ fun H2 e2 => ⟨((E0, E0), z.1.2, .none), ⟨⟨_, _, _, rfl, rfl, hG.ex (e1.trans e2), .non⟩, so2, fun z => by cases z⟩, fun H3 e3 => q H3 ((e1.trans e2).trans e3)⟩)
/-- two readings, the second none: one of the two is no reading -/
def TNPre (K : PySem.W.Frag) (z : (List (Str × Nat) × List (Str × Nat)) × Rt) (vs : List V) (H : Hp) : Prop := ∃ u o v, vs = [u, o, o, v, .non] ∧ RdPre K z [u, o, v] H
theorem c_two_readR (T : Txt mg) (D : Df K mg "two_read" s_two_read ["first", "second", "third", "one", "two"]) (c_need_signature : Cl P w K mg base 5 "need_signature" (sp_need_signature K)) (c_need_readingG : Cl P w K mg base 7 "need_reading" (sp_need_readingG K)) (c_need_readingE : ClX P w K mg base 7 "need_reading" (spE E0 (RbPre K))) : ClX P w K mg base 8 "two_read" (spE E0 (TNPre K)) := by
  refine clx_of (k := 7) D sc_two_read (fun vs H Q E h => ?_) (fun f cdv AA outer s H vs Q E hr h => ?_)
  · obtain ⟨z, ⟨u, o, v, rfl, _⟩, _⟩ := h
    rfl
  · obtain ⟨⟨⟨sg, sg2⟩, th⟩, ⟨u, o, v, rfl, hz⟩, q⟩ := h
    have c_need_reading := c_need_readingG
    obtain ⟨⟨u', o', v', ee, hF, hG, tv⟩, so, so2, fit⟩ := id hz
    cases ee
    replace hF : FSig K H u sg := hF
    replace hG : FSig K H o sg2 := hG
    replace so : SigOk sg := so
    replace so2 : SigOk sg2 := so2
    by_cases good : rdW sg th = .none
    · refine ⟨_, (pss_cons (ps_expr (pe_cl c_need_signature hr (by first | decide | omega) (by rfl) (pa_cons (pv 0) pa_nil)))
      (pss_cons (ps_expr (pe_cl c_need_signature hr (by first | decide | omega) (by rfl) (pa_cons (pv 1) pa_nil)))
      (pss_cons (ps_expr (pe_cl c_need_signature hr (by first | decide | omega) (by rfl) (pa_cons (pv 2) pa_nil)))
      (pss_cons (ps_expr (pe_cl c_need_reading hr (by first | decide | omega) (by rfl) (pa_cons (pv 0) (pa_cons (pv 1) (pa_cons (pv 3) pa_nil)))))
      (pss_cons (ps_expr (pe_clX c_need_readingE (takes_of rfl rfl rfl rfl) hr (by first | decide | omega) (by rfl) (pa_cons (pv 1) (pa_cons (pv 2) (pa_cons (pv 4) pa_nil)))))
      (pss_cons (ps_never)
      (pss_one (ps_never)))))))), ?_⟩
      refine q_drop (ev_callV (v := .non) sg (ea_cons (ev_var rfl) ea_nil) (fun H1 e1 => ⟨⟨_, rfl, (hF.ex e1).sig⟩, so⟩) (fun _ _ p => p)) fun H1 e1 => ?_
      refine q_drop (ev_callV (v := .non) sg2 (ea_cons (ev_var rfl) ea_nil) (fun H2 e2 => ⟨⟨_, rfl, (hG.ex (e1.trans e2)).sig⟩, so2⟩) (fun _ _ p => p)) fun H2 e2 => ?_
      refine q_drop (ev_callV (v := .non) sg2 (ea_cons (ev_var rfl) ea_nil) (fun H3 e3 => ⟨⟨_, rfl, (hG.ex ((e1.trans e2).trans e3)).sig⟩, so2⟩) (fun _ _ p => p)) fun H3 e3 => ?_
      have e03 := (e1.trans e2).trans e3
      refine q_drop (ev_callV (v := .non) ((sg, sg2), th) (ea_cons (ev_var rfl) (ea_cons (ev_var rfl) (ea_cons (ev_var rfl) ea_nil))) (fun H4 e4 => ⟨hz.ex (e03.trans e4), good⟩) (fun _ _ p => p)) fun H4 e4 => ?_
      have e04 := e03.trans e4
      exact do_try (W0 := fun _ => fun cls d _ H => E cls d H) ((ea_cons (ev_var rfl) (ea_cons (ev_var rfl) (ea_cons (ev_var rfl) ea_nil))) H4 (Ex.refl _) _ fun H5 e5 => ⟨((sg2, sg2), .odd .none), ⟨⟨⟨_, _, _, rfl, hG.ex (e04.trans e5), hG.ex (e04.trans e5), ⟨.fl .non rfl, .non⟩⟩, so2, so2, trivial⟩, fun z => by cases z⟩, fun H6 e6 => q H6 ((e04.trans e5).trans e6)⟩)
    · refine ⟨_, (pss_cons (ps_expr (pe_cl c_need_signature hr (by first | decide | omega) (by rfl) (pa_cons (pv 0) pa_nil)))
      (pss_cons (ps_expr (pe_cl c_need_signature hr (by first | decide | omega) (by rfl) (pa_cons (pv 1) pa_nil)))
      (pss_cons (ps_expr (pe_cl c_need_signature hr (by first | decide | omega) (by rfl) (pa_cons (pv 2) pa_nil)))
      (pss_cons (ps_expr (pe_clX c_need_readingE (takes_of rfl rfl rfl rfl) hr (by first | decide | omega) (by rfl) (pa_cons (pv 0) (pa_cons (pv 1) (pa_cons (pv 3) pa_nil)))))
      (pss_cons (ps_never)
      (pss_cons (ps_never)
      (pss_one (ps_never)))))))), ?_⟩
      refine q_drop (ev_callV (v := .non) sg (ea_cons (ev_var rfl) ea_nil) (fun H1 e1 => ⟨⟨_, rfl, (hF.ex e1).sig⟩, so⟩) (fun _ _ p => p)) fun H1 e1 => ?_
      refine q_drop (ev_callV (v := .non) sg2 (ea_cons (ev_var rfl) ea_nil) (fun H2 e2 => ⟨⟨_, rfl, (hG.ex (e1.trans e2)).sig⟩, so2⟩) (fun _ _ p => p)) fun H2 e2 => ?_
      refine q_drop (ev_callV (v := .non) sg2 (ea_cons (ev_var rfl) ea_nil) (fun H3 e3 => ⟨⟨_, rfl, (hG.ex ((e1.trans e2).trans e3)).sig⟩, so2⟩) (fun _ _ p => p)) fun H3 e3 => ?_
      have e03 := (e1.trans e2).trans e3
      exact do_try (W0 := fun _ => fun cls d _ H => E cls d H) ((ea_cons (ev_var rfl) (ea_cons (ev_var rfl) (ea_cons (ev_var rfl) ea_nil))) H3 (Ex.refl _) _ fun H4 e4 => ⟨((sg, sg2), th), ⟨hz.ex (e03.trans e4), good⟩, fun H5 e5 => q H5 ((e03.trans e4).trans e5)⟩)
end
end K11
end
section
namespace K11
open PySem PySem.Spec PyProof.Rows L2 Evl RZ Dw M20
/-- what the top says of the errors' classes, in the order that _law_kind asks them -/
structure ErK (K : PySem.W.Frag) (mg : Str → Option Value) (C : Nat → Addr) (G0 : Addr) : Prop where
  g : mg "DeedError" = some (.ref G0)
  m0 : mg "NoSignature" = some (.ref (C 0))
  m1 : mg "NoReading" = some (.ref (C 1))
  m2 : mg "NoTerm" = some (.ref (C 2))
  m3 : mg "NoModel" = some (.ref (C 3))
  m4 : mg "TooBig" = some (.ref (C 4))
  kit : ∀ i j, i < 4 → j < 5 → PySem.W.kitOne K (.ref (C i)) (.ref (C j)) = some (decide (i = j))
  val : ∀ i, i < 4 → PySem.W.kitOne K (.ref (C i)) (.type "ValueError") = some true
  xc : ∀ i, i < 4 → ExcC K (C i)
  xm : ∀ i, i < 4 → PySem.W.exmOne K (.ref (C i)) (.ref G0) = some true
def markW : Nat → Str
  | 0 => "signature"
  | 1 => "reading"
  | 2 => "term"
  | 3 => "model"
  | _ => "big"
section
variable {P : Program} {w : World} {K : PySem.W.Frag} {mg : Str → Option Value} {base : Heap} {σ : L2.St} {H H' Hb : Hp} {p c : Addr} {n m k W : Nat} {v : V} {d : PyData} {C : Nat → Addr} {G0 S0 E0 : Addr}
/-- .. for a, b in zip(two lists) if .. -/
theorem el_lcZ2 {a b : Addr} {xs ys : List V} {ta : TA} {tt : TT} {te : TE} {j1 j2 : Nat} {vs : List Nat} (h : EvA ta σ H [.ref a, .ref b]) (hx : SqL K H a xs) (hy : SqL K H b ys) (hl : xs.length = ys.length) (f : Nat → Bool) (u : Nat → V) (hn : xs.length ≤ 40000)
    (hw : ∀ x y, wipe (((wipe σ vs).set j1 (some x)).set j2 (some y)) vs = wipe σ vs) (ht : ∀ i x y H1, Ex H H1 → xs[i]? = some x → ys[i]? = some y → EvT tt (((wipe σ vs).set j1 (some x)).set j2 (some y)) H1 (f i))
    (he : ∀ i x y H1, Ex H H1 → xs[i]? = some x → ys[i]? = some y → f i = true → Ev te (((wipe σ vs).set j1 (some x)).set j2 (some y)) H1 (u i)) :
    EvL (tLc (iZipA K ta) (gTup K 2 (gCons (gName j1) (gCons (gName j2) gNil))) tt te vs) σ H (given xs.length f u) := fun H0 e Q q => h H0 e _ fun H1 e1 =>
  ⟨a, b, xs, ys, rfl, .inl ⟨ex_l (e.trans e1) hx, ex_l (e.trans e1) hy, fun Dl nD => lc_it (walk_zip (n := xs.length) (by rw [hl, Nat.min_self])) (Cw H1 f u Dl) ⟨nD, Ex.new nD, upd_same⟩
    (fun i H2 _ p => ⟨ex_l ((e.trans e1).trans p.2.1) hx, ex_l ((e.trans e1).trans p.2.1) hy⟩) (fun i v H2 H3 hi p y => by
      obtain ⟨T, x1, x2, rfl, nT, rfl, f1, f2⟩ := y
      have p' := cw_ex1 p (Ex.new (o := .tup [x1, x2]) nT)
      exact ⟨T, _, rfl, st_of upd_same, rfl, _, _, rfl, _, _, rfl, rfl, hw _ _, cw_turn p' (by omega) (ht i x1 x2 H1 (e.trans e1) f1 f2) (fun hf => he i x1 x2 H1 (e.trans e1) f1 f2 hf)⟩) (fun H2 p => q Dl H2 (fresh_back e1 p.1) (e1.trans p.2.1) p.2.2)⟩⟩
theorem el_catV {ta tb : TE} {l : Addr} {xs ys : List V} (ha : Ev ta σ H (.ref l)) (hA : H l = some (.lst xs)) (hb : EvL tb σ H ys) (n : xs.length + ys.length ≤ 100000) : EvL (tOp rCat ta tb) σ H (xs ++ ys) := fun H1 e1 Q q => ha H1 e1 _ fun H2 e2 => hb H2 (e1.trans e2) _ fun b H3 nb e3 hB => ⟨l, b, xs, ys, rfl, rfl, ((e1.trans e2).trans e3) _ _ hA, hB, sz_of n, fun r nr => q r _ (fresh_back (e2.trans e3) nr) ((e2.trans e3).trans (Ex.new nr)) upd_same⟩
def sp_kind (K : PySem.W.Frag) (C : Nat → Addr) : Sp := spL (fun (i : Nat) vs H => (∃ x, vs = [x] ∧ x ≠ .non ∧ TyC K H x (.ref (C i))) ∧ i < 4) (fun i => [.str (markW i)])
theorem c_kind (T : Txt mg) (D : Df K mg "_law_kind" s__law_kind ["_law_error"]) (er : ErK K mg C G0) : Cl P w K mg base 1 "_law_kind" (sp_kind K C) := by
  refine cl_of (k := 0) D sc__law_kind (fun vs H Q E h => ?_) (fun f cdv A outer s H vs Q E hr h => ?_)
  · obtain ⟨i, ⟨⟨x, rfl, _⟩, _⟩, _⟩ := h
    rfl
  · obtain ⟨i, ⟨⟨x, rfl, xn, tc⟩, i4⟩, q⟩ := h
    replace tc : TyC K H x (.ref (C i)) := tc
    replace i4 : i < 4 := i4
    refine ⟨_, (pss_cons (ps_set (i := 1) sc__law_kind.nd rfl (.inl rfl) (pe_lst (pa_cons (pe_callB call_isC (by rfl) T.z_isinstance (by decide +kernel) (pa_cons (pv 0) (pa_cons (pe_gv (by rfl) er.m0) pa_nil))) (pa_cons (pe_callB call_isC (by rfl) T.z_isinstance (by decide +kernel) (pa_cons (pv 0) (pa_cons (pe_gv (by rfl) er.m1) pa_nil))) (pa_cons (pe_callB call_isC (by rfl) T.z_isinstance (by decide +kernel) (pa_cons (pv 0) (pa_cons (pe_gv (by rfl) er.m2) pa_nil))) pa_nil)))))
      (pss_cons (ps_set (i := 1) sc__law_kind.nd rfl (.inl rfl) (pe_op op_cat (pv 1) (pe_lst (pa_cons (pe_callB call_isC (by rfl) T.z_isinstance (by decide +kernel) (pa_cons (pv 0) (pa_cons (pe_gv (by rfl) er.m3) pa_nil))) (pa_cons (pe_callB call_isC (by rfl) T.z_isinstance (by decide +kernel) (pa_cons (pv 0) (pa_cons (pe_gv (by rfl) er.m4) pa_nil))) pa_nil)))))
      (pss_cons (ps_set (i := 2) sc__law_kind.nd rfl (.inl rfl) (pe_lst (pa_cons pe_str (pa_cons pe_str (pa_cons pe_str (pa_cons pe_str (pa_cons pe_str pa_nil)))))))
      (pss_cons (ps_if (PW.pt (pw_and (pt_cmpR op_notN (pv 0) pe_non (nomark _)) (pw_and1 (pt_not (pt_val (pe_callB call_isC (by rfl) T.z_isinstance (by decide +kernel) (pa_cons (pv 0) (pa_cons (pe_ty "ValueError" (by rfl) T.z_ValueError (by decide +kernel)) pa_nil))))))))
        (pss_one (ps_ret (pe_lst (pa_cons pe_str pa_nil))))
        pss_nil)
      (pss_one (ps_ret (pe_lc (own := [("_law_word_here", 3), ("_law_truth", 4)]) (g := (gTup _ 2 (gCons (gName 3) (gCons (gName 4) gNil)))) (by rfl) sc__law_kind.nd (pi_zipA (by rfl) T.z_zip (pa_cons (pv 2) (pa_cons (pv 1) pa_nil))) (blkOk_by (own := [("_law_word_here", 3), ("_law_truth", 4)]) (N := ["_law_error", "_law_some", "_law_words", "_law_word_here", "_law_truth"]) (sc := defScope s__law_kind) (by decide +kernel)) (fun _ _ _ _ _ => (pg_tup (by rfl) (pgs_cons (pg_name (i := 3) sc__law_kind.nd rfl (.inl rfl)) (pgs_cons (pg_name (i := 4) sc__law_kind.nd rfl (.inl rfl)) pgs_nil)))) (fun _ _ _ _ _ => (pts_one (pt_val (pv 4)))) (fun _ _ _ _ _ => (pv 3))))))))), ?_⟩
    have isc : ∀ {j : Nat} {te : TE} {y1 y2 y3 y4 : Option V} {H2 : Hp}, j < 5 → Ex H H2 → (∀ s, Ev te s H2 (.ref (C j))) → Ev (tCB (rIsC K) (tCons (tVar 0) (tCons te tNil))) [some x, y1, y2, y3, y4] H2 (.bl (decide (i = j))) := fun {j te y1 y2 y3 y4 H2} hj e h => ev_isC (ev_var rfl) (h _) (.own _) (tc.ex e) (er.kit i j i4 hj)
    refine q_asgL (el_lst (vs := [.bl (decide (i = 0)), .bl (decide (i = 1)), .bl (decide (i = 2))]) (ea_cons (isc (by decide) (Ex.refl _) fun _ => ev_c) (ea_cons (isc (by decide) (Ex.refl _) fun _ => ev_c) (ea_cons (isc (by decide) (Ex.refl _) fun _ => ev_c) ea_nil))) (by show 3 ≤ 100000; decide)) fun l1 H1 n1 e1 h1 => ?_
    show tSeq _ _ _ [some x, some (.ref l1), none, none, none] H1
    refine q_asgL (el_catV (ev_var rfl) h1 (el_lst (vs := [.bl (decide (i = 3)), .bl (decide (i = 4))]) (ea_cons (isc (by decide) (e1) fun _ => ev_c) (ea_cons (isc (by decide) (e1) fun _ => ev_c) ea_nil)) (by show 2 ≤ 100000; decide)) (by show 3 + 2 ≤ 100000; decide)) fun l2 H2 n2 e2 h2 => ?_
    have e02 := e1.trans e2
    show tSeq _ _ _ [some x, some (.ref l2), none, none, none] H2
    refine q_asgL (el_lst (vs := [.str (markW 0), .str (markW 1), .str (markW 2), .str (markW 3), .str (markW 4)]) (ea_cons ev_c (ea_cons ev_c (ea_cons ev_c (ea_cons ev_c (ea_cons ev_c ea_nil))))) (by show 5 ≤ 100000; decide)) fun l4 H4 n4 e4 h4 => ?_
    have e04 := e02.trans e4
    have h2b := e4 _ _ h2
    show tSeq _ _ _ [some x, some (.ref l2), some (.ref l4), none, none] H4
    refine q_when (b := false) (et_is (et_and (a := true) (b := false) (et_is (et_isN (ev_var rfl)) (by rw [decide_eq_false xn]; rfl)) (fun _ => et_is (et_not (et_val (ev_isC (ev_var rfl) ev_c (.ty _) (tc.ex e04) (er.val i i4)))) rfl)) rfl) (fun hb => by cases hb) (fun _ H5 e5 => ?_)
    have five : ∀ {j : Nat} {y : V}, ([.bl (decide (i = 0)), .bl (decide (i = 1)), .bl (decide (i = 2))] ++ [.bl (decide (i = 3)), .bl (decide (i = 4))] : List V)[j]? = some y → y = .bl (decide (i = j)) := fun {j y} h => by
      have j9 : j < 5 := (List.getElem?_eq_some_iff.mp h).1
      have : j = 0 ∨ j = 1 ∨ j = 2 ∨ j = 3 ∨ j = 4 := by omega
      rcases this with rfl | rfl | rfl | rfl | rfl <;> exact (Option.some.inj h).symm
    have words : ∀ {j : Nat} {y : V}, ([.str (markW 0), .str (markW 1), .str (markW 2), .str (markW 3), .str (markW 4)] : List V)[j]? = some y → y = .str (markW j) := fun {j y} h => by
      have j9 : j < 5 := (List.getElem?_eq_some_iff.mp h).1
      have : j = 0 ∨ j = 1 ∨ j = 2 ∨ j = 3 ∨ j = 4 := by omega
      rcases this with rfl | rfl | rfl | rfl | rfl <;> exact (Option.some.inj h).symm
    have nw : given 5 (fun j => decide (i = j)) (fun j => V.str (markW j)) = [.str (markW i)] := by
      have : i = 0 ∨ i = 1 ∨ i = 2 ∨ i = 3 := by omega
      rcases this with rfl | rfl | rfl | rfl <;> rfl
    refine s_retL (el_lcZ2 (K := K) (ea_cons (ev_var rfl) (ea_cons (ev_var rfl) ea_nil)) (sq_of (e5 _ _ h4)) (sq_of (e5 _ _ h2b)) rfl (fun j => decide (i = j)) (fun j => .str (markW j)) (by show 5 ≤ 40000; decide) (fun _ _ => rfl) (fun j a b H6 e6 ha hb => ?_) (fun j a b H6 e6 ha hb _ => ?_)) fun l5 H6 n5 e6 h5 => ?_
    · rw [five hb]
      exact et_val (ev_var rfl)
    · rw [words ha]
      exact ev_var rfl
    have h5' : H6 l5 = some (.lst [.str (markW i)]) := by
      rw [← nw]
      exact h5
    exact q l5 H6 (fresh_back (e04.trans e5) n5) ((e04.trans e5).trans e6) h5'
theorem et_noI {i n : Nat} {z : Int} (hi : σ[i]? = some (some (vi n))) (ne : (n : Int) ≠ z) : EvT (tTest (tOp rEq (tVar i) (tC (.int z)))) σ H false := et_is (et_test (ev_op (ev_var hi) ev_c (rv_eq rfl))) (decide_eq_false fun e => ne (by injection e))
theorem et_yesI {i n : Nat} {z : Int} (hi : σ[i]? = some (some (vi n))) (e : (n : Int) = z) : EvT (tTest (tOp rEq (tVar i) (tC (.int z)))) σ H true := et_is (et_test (ev_op (ev_var hi) ev_c (rv_eq rfl))) (decide_eq_true (by rw [← e]))
theorem kept_at (er : ErK K mg C G0) {i : Nat} (h : i < 4) {H4 H5 : Hp} {a : Addr} (na : H4 a = none) (e : Ex (upd H4 a (ExcAt a (.ref (C i)) none)) H5) : Ex H4 H5 ∧ TyC K H5 (.ref a) (.ref (C i)) := ⟨(Ex.new na).trans e, .inr ⟨a, C i, rfl, e _ _ upd_same, er.xc i h, rfl⟩⟩
/-- _law_caught where one of the two is no signature -/
def CsPre (K : PySem.W.Frag) (z : Nat × (((Addr × Addr) × PyData) × Option (List (Str × Nat)))) (vs : List V) (H : Hp) : Prop := z.1 < 4 ∧ ∃ u o v, vs = [vi z.1, u, o, v] ∧ S2Pre K 1 z.2 [u, o, v] H
def sp_caughtS (K : PySem.W.Frag) : Sp := spL (CsPre K) (fun _ => [.str "signature"])
theorem s2_more {z : ((Addr × Addr) × PyData) × Option (List (Str × Nat))} {u o v x y : V} (h : S2Pre K 1 z [u, o, v] H) : S2Pre K 3 z [u, o, x, v, y] H := by
  obtain ⟨g, b, u', o', r, e, l, hh⟩ := h
  cases e
  exact ⟨g, b, u, o, _, rfl, rfl, hh⟩
theorem c_caughtS (T : Txt mg) (D : Df K mg "_law_caught" s__law_caught ["_law_which", "_law_first", "_law_second", "_law_thing"]) (er : ErK K mg C G0) (c_kind : Cl P w K mg base 1 "_law_kind" (sp_kind K C)) (c_reading_wrongE : ClX P w K mg base 6 "reading_wrong" (spE (C 0) (S2Pre K 1))) (c_term_readE : ClX P w K mg base 8 "term_read" (spE (C 0) (EPre (S2Pre K 1)))) (c_model_readE : ClX P w K mg base 8 "model_read" (spE (C 0) (EPre (S2Pre K 1)))) (c_two_readE : ClX P w K mg base 8 "two_read" (spE (C 0) (S2Pre K 3))) : Cl P w K mg base 9 "_law_caught" (sp_caughtS K) := by
  refine cl_of (k := 8) D sc__law_caught (fun vs H Q E h => ?_) (fun f cdv AA outer s H vs Q E hr h => ?_)
  · obtain ⟨z, ⟨_, u, o, v, rfl, _⟩, _⟩ := h
    rfl
  · obtain ⟨⟨n, z⟩, ⟨n4, u, o, v, rfl, hz⟩, q⟩ := h
    replace n4 : n < 4 := n4
    replace hz : S2Pre K 1 z [u, o, v] H := hz
    have hi : 0 < 4 := by decide
    have : n = 0 ∨ n = 1 ∨ n = 2 ∨ n = 3 := by omega
    rcases this with rfl | rfl | rfl | rfl
    · refine ⟨_, (pss_cons (ps_set (i := 4) sc__law_caught.nd rfl (.inl rfl) pe_non)
      (pss_cut (ps_try_trk (i := 5) rfl rfl rfl sc__law_caught.nd rfl rfl ⟨rfl, by decide, .inl er.g⟩ (fun W pn xe tk _ => (pss_one (ps_if (pt_cmpR op_eq (pv 0) pe_int (nomark _)) (pss_one (ps_expr (pe_clX c_reading_wrongE tk hr (by first | decide | omega) (by rfl) (pa_cons (pv 1) (pa_cons (pv 2) (pa_cons (pv 3) pa_nil)))))) (pss_one (ps_if (pt_cmpR op_eq (pv 0) pe_int (nomark _)) (pss_one ps_never) (pss_one (ps_if (pt_cmpR op_eq (pv 0) pe_int (nomark _)) (pss_one ps_never) (pss_one ps_never)))))))) (fun a pn => pss_one (ps_set (i := 4) sc__law_caught.nd rfl (.inl rfl) (pv 5))))
      (pss_one (ps_ret (pe_cl c_kind hr (by first | decide | omega) (by rfl) (pa_cons (pv 4) pa_nil)))))), ?_⟩
      refine q_asg ev_c fun H1 e1 => ?_
      refine q_cut (M := fun σ' H' => Ex H H' ∧ ∃ (x : Addr), TyC K H' (.ref x) (.ref (C 0)) ∧ σ' = [some (vi 0), some u, some o, some v, some (.ref x), none]) ?_ (fun σ' H' hM => ?_)
      · show tIfS _ _ _ _ [some (vi 0), some u, some o, some v, some .non, none] H1
        refine s_if (b := true) (et_yesI (n := 0) (i := 0) rfl (by decide)) (fun _ J0 g0 => ?_) (fun hb => by cases hb)
        exact do_callS ((ea_cons (ev_var rfl) (ea_cons (ev_var rfl) (ea_cons (ev_var rfl) ea_nil))) J0 (Ex.refl _) _ fun I1 f1 => ⟨z, hz.ex ((e1.trans g0).trans f1), fun I2 f2 => ⟨er.xm 0 hi, fun a na => s_asg (ev_var rfl) fun I3 f3 => ⟨(((e1.trans g0).trans f1).trans f2).trans (kept_at er hi na f3).1, a, (kept_at er hi na f3).2, rfl⟩⟩⟩)
      · obtain ⟨e2, x, tc, hσ⟩ := hM
        subst hσ
        exact s_retL (el_call 0 (ea_cons (ev_var rfl) ea_nil) (fun H5 e5 => ⟨⟨_, rfl, (fun z => by cases z), tc.ex e5⟩, hi⟩)) fun p H5 np e5 hp => q p H5 (fresh_back e2 np) (e2.trans e5) hp
    · refine ⟨_, (pss_cons (ps_set (i := 4) sc__law_caught.nd rfl (.inl rfl) pe_non)
      (pss_cut (ps_try_trk (i := 5) rfl rfl rfl sc__law_caught.nd rfl rfl ⟨rfl, by decide, .inl er.g⟩ (fun W pn xe tk _ => (pss_one (ps_if (pt_cmpR op_eq (pv 0) pe_int (nomark _)) (pss_one ps_never) (pss_one (ps_if (pt_cmpR op_eq (pv 0) pe_int (nomark _)) (pss_one (ps_expr (pe_clX c_term_readE tk hr (by first | decide | omega) (by rfl) (pa_cons (pv 1) (pa_cons (pv 2) (pa_cons (pv 3) (pa_cons pe_non pa_nil))))))) (pss_one (ps_if (pt_cmpR op_eq (pv 0) pe_int (nomark _)) (pss_one ps_never) (pss_one ps_never)))))))) (fun a pn => pss_one (ps_set (i := 4) sc__law_caught.nd rfl (.inl rfl) (pv 5))))
      (pss_one (ps_ret (pe_cl c_kind hr (by first | decide | omega) (by rfl) (pa_cons (pv 4) pa_nil)))))), ?_⟩
      refine q_asg ev_c fun H1 e1 => ?_
      refine q_cut (M := fun σ' H' => Ex H H' ∧ ∃ (x : Addr), TyC K H' (.ref x) (.ref (C 0)) ∧ σ' = [some (vi 1), some u, some o, some v, some (.ref x), none]) ?_ (fun σ' H' hM => ?_)
      · show tIfS _ _ _ _ [some (vi 1), some u, some o, some v, some .non, none] H1
        refine s_if (b := false) (et_noI (n := 1) (i := 0) rfl (by decide)) (fun hb => by cases hb) (fun _ J0 g0 => ?_)
        refine s_if (b := true) (et_yesI (n := 1) (i := 0) rfl (by decide)) (fun _ J1 g1 => ?_) (fun hb => by cases hb)
        exact do_callS ((ea_cons (ev_var rfl) (ea_cons (ev_var rfl) (ea_cons (ev_var rfl) (ea_cons ev_c ea_nil)))) J1 (Ex.refl _) _ fun I1 f1 => ⟨z, ⟨_, _, _, _, rfl, hz.ex (((e1.trans g0).trans g1).trans f1)⟩, fun I2 f2 => ⟨er.xm 0 hi, fun a na => s_asg (ev_var rfl) fun I3 f3 => ⟨((((e1.trans g0).trans g1).trans f1).trans f2).trans (kept_at er hi na f3).1, a, (kept_at er hi na f3).2, rfl⟩⟩⟩)
      · obtain ⟨e2, x, tc, hσ⟩ := hM
        subst hσ
        exact s_retL (el_call 0 (ea_cons (ev_var rfl) ea_nil) (fun H5 e5 => ⟨⟨_, rfl, (fun z => by cases z), tc.ex e5⟩, hi⟩)) fun p H5 np e5 hp => q p H5 (fresh_back e2 np) (e2.trans e5) hp
    · refine ⟨_, (pss_cons (ps_set (i := 4) sc__law_caught.nd rfl (.inl rfl) pe_non)
      (pss_cut (ps_try_trk (i := 5) rfl rfl rfl sc__law_caught.nd rfl rfl ⟨rfl, by decide, .inl er.g⟩ (fun W pn xe tk _ => (pss_one (ps_if (pt_cmpR op_eq (pv 0) pe_int (nomark _)) (pss_one ps_never) (pss_one (ps_if (pt_cmpR op_eq (pv 0) pe_int (nomark _)) (pss_one ps_never) (pss_one (ps_if (pt_cmpR op_eq (pv 0) pe_int (nomark _)) (pss_one (ps_expr (pe_clX c_model_readE tk hr (by first | decide | omega) (by rfl) (pa_cons (pv 1) (pa_cons (pv 2) (pa_cons (pv 3) (pa_cons pe_non pa_nil))))))) (pss_one ps_never)))))))) (fun a pn => pss_one (ps_set (i := 4) sc__law_caught.nd rfl (.inl rfl) (pv 5))))
      (pss_one (ps_ret (pe_cl c_kind hr (by first | decide | omega) (by rfl) (pa_cons (pv 4) pa_nil)))))), ?_⟩
      refine q_asg ev_c fun H1 e1 => ?_
      refine q_cut (M := fun σ' H' => Ex H H' ∧ ∃ (x : Addr), TyC K H' (.ref x) (.ref (C 0)) ∧ σ' = [some (vi 2), some u, some o, some v, some (.ref x), none]) ?_ (fun σ' H' hM => ?_)
      · show tIfS _ _ _ _ [some (vi 2), some u, some o, some v, some .non, none] H1
        refine s_if (b := false) (et_noI (n := 2) (i := 0) rfl (by decide)) (fun hb => by cases hb) (fun _ J0 g0 => ?_)
        refine s_if (b := false) (et_noI (n := 2) (i := 0) rfl (by decide)) (fun hb => by cases hb) (fun _ J1 g1 => ?_)
        refine s_if (b := true) (et_yesI (n := 2) (i := 0) rfl (by decide)) (fun _ J2 g2 => ?_) (fun hb => by cases hb)
        exact do_callS ((ea_cons (ev_var rfl) (ea_cons (ev_var rfl) (ea_cons (ev_var rfl) (ea_cons ev_c ea_nil)))) J2 (Ex.refl _) _ fun I1 f1 => ⟨z, ⟨_, _, _, _, rfl, hz.ex ((((e1.trans g0).trans g1).trans g2).trans f1)⟩, fun I2 f2 => ⟨er.xm 0 hi, fun a na => s_asg (ev_var rfl) fun I3 f3 => ⟨(((((e1.trans g0).trans g1).trans g2).trans f1).trans f2).trans (kept_at er hi na f3).1, a, (kept_at er hi na f3).2, rfl⟩⟩⟩)
      · obtain ⟨e2, x, tc, hσ⟩ := hM
        subst hσ
        exact s_retL (el_call 0 (ea_cons (ev_var rfl) ea_nil) (fun H5 e5 => ⟨⟨_, rfl, (fun z => by cases z), tc.ex e5⟩, hi⟩)) fun p H5 np e5 hp => q p H5 (fresh_back e2 np) (e2.trans e5) hp
    · refine ⟨_, (pss_cons (ps_set (i := 4) sc__law_caught.nd rfl (.inl rfl) pe_non)
      (pss_cut (ps_try_trk (i := 5) rfl rfl rfl sc__law_caught.nd rfl rfl ⟨rfl, by decide, .inl er.g⟩ (fun W pn xe tk _ => (pss_one (ps_if (pt_cmpR op_eq (pv 0) pe_int (nomark _)) (pss_one ps_never) (pss_one (ps_if (pt_cmpR op_eq (pv 0) pe_int (nomark _)) (pss_one ps_never) (pss_one (ps_if (pt_cmpR op_eq (pv 0) pe_int (nomark _)) (pss_one ps_never) (pss_one (ps_expr (pe_clX c_two_readE tk hr (by first | decide | omega) (by rfl) (pa_cons (pv 1) (pa_cons (pv 2) (pa_cons (pv 2) (pa_cons (pv 3) (pa_cons pe_non pa_nil))))))))))))))) (fun a pn => pss_one (ps_set (i := 4) sc__law_caught.nd rfl (.inl rfl) (pv 5))))
      (pss_one (ps_ret (pe_cl c_kind hr (by first | decide | omega) (by rfl) (pa_cons (pv 4) pa_nil)))))), ?_⟩
      refine q_asg ev_c fun H1 e1 => ?_
      refine q_cut (M := fun σ' H' => Ex H H' ∧ ∃ (x : Addr), TyC K H' (.ref x) (.ref (C 0)) ∧ σ' = [some (vi 3), some u, some o, some v, some (.ref x), none]) ?_ (fun σ' H' hM => ?_)
      · show tIfS _ _ _ _ [some (vi 3), some u, some o, some v, some .non, none] H1
        refine s_if (b := false) (et_noI (n := 3) (i := 0) rfl (by decide)) (fun hb => by cases hb) (fun _ J0 g0 => ?_)
        refine s_if (b := false) (et_noI (n := 3) (i := 0) rfl (by decide)) (fun hb => by cases hb) (fun _ J1 g1 => ?_)
        refine s_if (b := false) (et_noI (n := 3) (i := 0) rfl (by decide)) (fun hb => by cases hb) (fun _ J2 g2 => ?_)
        exact do_callS ((ea_cons (ev_var rfl) (ea_cons (ev_var rfl) (ea_cons (ev_var rfl) (ea_cons (ev_var rfl) (ea_cons ev_c ea_nil))))) J2 (Ex.refl _) _ fun I1 f1 => ⟨z, s2_more (hz.ex ((((e1.trans g0).trans g1).trans g2).trans f1)), fun I2 f2 => ⟨er.xm 0 hi, fun a na => s_asg (ev_var rfl) fun I3 f3 => ⟨(((((e1.trans g0).trans g1).trans g2).trans f1).trans f2).trans (kept_at er hi na f3).1, a, (kept_at er hi na f3).2, rfl⟩⟩⟩)
      · obtain ⟨e2, x, tc, hσ⟩ := hM
        subst hσ
        exact s_retL (el_call 0 (ea_cons (ev_var rfl) ea_nil) (fun H5 e5 => ⟨⟨_, rfl, (fun z => by cases z), tc.ex e5⟩, hi⟩)) fun p H5 np e5 hp => q p H5 (fresh_back e2 np) (e2.trans e5) hp
/-- what is due of a thing that is a reading or none -/
def dueN (n : Nat) (ok : Bool) : Nat := if ok then (match n with
  | 1 => 2
  | 2 => 3
  | _ => 1) else 1
def isNone (d : PyData) : Bool := match d with
  | .none => true
  | _ => false
theorem isNone_t {d : PyData} (h : isNone d = true) : d = .none := by
  cases d <;> first | rfl | cases h
theorem isNone_f {d : PyData} (h : isNone d = false) : d ≠ .none := fun z => by
  rw [z] at h
  cases h
def CdPre (K : PySem.W.Frag) (z : Nat × ((List (Str × Nat) × List (Str × Nat)) × Rt)) (vs : List V) (H : Hp) : Prop := (1 ≤ z.1 ∧ z.1 < 4) ∧ ∃ u o v, vs = [vi z.1, u, o, v] ∧ RdPre K z.2 [u, o, v] H
def sp_caughtD (K : PySem.W.Frag) : Sp := spL (CdPre K) (fun z => [.str (markW (dueN z.1 (isNone (rdW z.2.1.1 z.2.2))))])
theorem c_caughtD (T : Txt mg) (D : Df K mg "_law_caught" s__law_caught ["_law_which", "_law_first", "_law_second", "_law_thing"]) (er : ErK K mg C G0) (c_kind : Cl P w K mg base 1 "_law_kind" (sp_kind K C)) (c_term_readB : ClX P w K mg base 8 "term_read" (spE (C 1) (EPre (RbPre K)))) (c_term_readT : ClX P w K mg base 8 "term_read" (spE (C 2) (GNPre K))) (c_model_readB : ClX P w K mg base 8 "model_read" (spE (C 1) (EPre (RbPre K)))) (c_model_readM : ClX P w K mg base 8 "model_read" (spE (C 3) (GNPre K))) (c_two_readE : ClX P w K mg base 8 "two_read" (spE (C 1) (TNPre K))) : Cl P w K mg base 9 "_law_caught" (sp_caughtD K) := by
  refine cl_of (k := 8) D sc__law_caught (fun vs H Q E h => ?_) (fun f cdv AA outer s H vs Q E hr h => ?_)
  · obtain ⟨z, ⟨_, u, o, v, rfl, _⟩, _⟩ := h
    rfl
  · obtain ⟨⟨n, z⟩, ⟨n4, u, o, v, rfl, hz⟩, q⟩ := h
    replace n4 : 1 ≤ n ∧ n < 4 := n4
    replace hz : RdPre K z [u, o, v] H := hz
    replace q : ∀ p H', H p = none → Ex H H' → H' p = some (.lst [.str (markW (dueN n (isNone (rdW z.1.1 z.2))))]) → Q (.ref p) H' := q
    have h1 : 1 < 4 := by decide
    have h2 : 2 < 4 := by decide
    have h3 : 3 < 4 := by decide
    have : n = 1 ∨ n = 2 ∨ n = 3 := by omega
    cases ok : isNone (rdW z.1.1 z.2) with
    | true =>
      rw [ok] at q
      have good := isNone_t ok
      rcases this with rfl | rfl | rfl
      · have c_term_readE := c_term_readT
        refine ⟨_, (pss_cons (ps_set (i := 4) sc__law_caught.nd rfl (.inl rfl) pe_non)
      (pss_cut (ps_try_trk (i := 5) rfl rfl rfl sc__law_caught.nd rfl rfl ⟨rfl, by decide, .inl er.g⟩ (fun W pn xe tk _ => (pss_one (ps_if (pt_cmpR op_eq (pv 0) pe_int (nomark _)) (pss_one ps_never) (pss_one (ps_if (pt_cmpR op_eq (pv 0) pe_int (nomark _)) (pss_one (ps_expr (pe_clX c_term_readE tk hr (by first | decide | omega) (by rfl) (pa_cons (pv 1) (pa_cons (pv 2) (pa_cons (pv 3) (pa_cons pe_non pa_nil))))))) (pss_one (ps_if (pt_cmpR op_eq (pv 0) pe_int (nomark _)) (pss_one ps_never) (pss_one ps_never)))))))) (fun a pn => pss_one (ps_set (i := 4) sc__law_caught.nd rfl (.inl rfl) (pv 5))))
      (pss_one (ps_ret (pe_cl c_kind hr (by first | decide | omega) (by rfl) (pa_cons (pv 4) pa_nil)))))), ?_⟩
        refine q_asg ev_c fun H1 e1 => ?_
        refine q_cut (M := fun σ' H' => Ex H H' ∧ ∃ (x : Addr), TyC K H' (.ref x) (.ref (C 2)) ∧ σ' = [some (vi 1), some u, some o, some v, some (.ref x), none]) ?_ (fun σ' H' hM => ?_)
        · show tIfS _ _ _ _ [some (vi 1), some u, some o, some v, some .non, none] H1
          refine s_if (b := false) (et_noI (n := 1) (i := 0) rfl (by decide)) (fun hb => by cases hb) (fun _ J0 g0 => ?_)
          refine s_if (b := true) (et_yesI (n := 1) (i := 0) rfl (by decide)) (fun _ J1 g1 => ?_) (fun hb => by cases hb)
          exact do_callS ((ea_cons (ev_var rfl) (ea_cons (ev_var rfl) (ea_cons (ev_var rfl) (ea_cons ev_c ea_nil)))) J1 (Ex.refl _) _ fun I1 f1 => ⟨z, ⟨_, _, _, rfl, hz.ex (((e1.trans g0).trans g1).trans f1), good⟩, fun I2 f2 => ⟨er.xm 2 h2, fun a na => s_asg (ev_var rfl) fun I3 f3 => ⟨((((e1.trans g0).trans g1).trans f1).trans f2).trans (kept_at er h2 na f3).1, a, (kept_at er h2 na f3).2, rfl⟩⟩⟩)
        · obtain ⟨e2, x, tc, hσ⟩ := hM
          subst hσ
          exact s_retL (el_call 2 (ea_cons (ev_var rfl) ea_nil) (fun H5 e5 => ⟨⟨_, rfl, (fun z => by cases z), tc.ex e5⟩, h2⟩)) fun p H5 np e5 hp => q p H5 (fresh_back e2 np) (e2.trans e5) hp
      · have c_model_readE := c_model_readM
        refine ⟨_, (pss_cons (ps_set (i := 4) sc__law_caught.nd rfl (.inl rfl) pe_non)
      (pss_cut (ps_try_trk (i := 5) rfl rfl rfl sc__law_caught.nd rfl rfl ⟨rfl, by decide, .inl er.g⟩ (fun W pn xe tk _ => (pss_one (ps_if (pt_cmpR op_eq (pv 0) pe_int (nomark _)) (pss_one ps_never) (pss_one (ps_if (pt_cmpR op_eq (pv 0) pe_int (nomark _)) (pss_one ps_never) (pss_one (ps_if (pt_cmpR op_eq (pv 0) pe_int (nomark _)) (pss_one (ps_expr (pe_clX c_model_readE tk hr (by first | decide | omega) (by rfl) (pa_cons (pv 1) (pa_cons (pv 2) (pa_cons (pv 3) (pa_cons pe_non pa_nil))))))) (pss_one ps_never)))))))) (fun a pn => pss_one (ps_set (i := 4) sc__law_caught.nd rfl (.inl rfl) (pv 5))))
      (pss_one (ps_ret (pe_cl c_kind hr (by first | decide | omega) (by rfl) (pa_cons (pv 4) pa_nil)))))), ?_⟩
        refine q_asg ev_c fun H1 e1 => ?_
        refine q_cut (M := fun σ' H' => Ex H H' ∧ ∃ (x : Addr), TyC K H' (.ref x) (.ref (C 3)) ∧ σ' = [some (vi 2), some u, some o, some v, some (.ref x), none]) ?_ (fun σ' H' hM => ?_)
        · show tIfS _ _ _ _ [some (vi 2), some u, some o, some v, some .non, none] H1
          refine s_if (b := false) (et_noI (n := 2) (i := 0) rfl (by decide)) (fun hb => by cases hb) (fun _ J0 g0 => ?_)
          refine s_if (b := false) (et_noI (n := 2) (i := 0) rfl (by decide)) (fun hb => by cases hb) (fun _ J1 g1 => ?_)
          refine s_if (b := true) (et_yesI (n := 2) (i := 0) rfl (by decide)) (fun _ J2 g2 => ?_) (fun hb => by cases hb)
          exact do_callS ((ea_cons (ev_var rfl) (ea_cons (ev_var rfl) (ea_cons (ev_var rfl) (ea_cons ev_c ea_nil)))) J2 (Ex.refl _) _ fun I1 f1 => ⟨z, ⟨_, _, _, rfl, hz.ex ((((e1.trans g0).trans g1).trans g2).trans f1), good⟩, fun I2 f2 => ⟨er.xm 3 h3, fun a na => s_asg (ev_var rfl) fun I3 f3 => ⟨(((((e1.trans g0).trans g1).trans g2).trans f1).trans f2).trans (kept_at er h3 na f3).1, a, (kept_at er h3 na f3).2, rfl⟩⟩⟩)
        · obtain ⟨e2, x, tc, hσ⟩ := hM
          subst hσ
          exact s_retL (el_call 3 (ea_cons (ev_var rfl) ea_nil) (fun H5 e5 => ⟨⟨_, rfl, (fun z => by cases z), tc.ex e5⟩, h3⟩)) fun p H5 np e5 hp => q p H5 (fresh_back e2 np) (e2.trans e5) hp
      · refine ⟨_, (pss_cons (ps_set (i := 4) sc__law_caught.nd rfl (.inl rfl) pe_non)
      (pss_cut (ps_try_trk (i := 5) rfl rfl rfl sc__law_caught.nd rfl rfl ⟨rfl, by decide, .inl er.g⟩ (fun W pn xe tk _ => (pss_one (ps_if (pt_cmpR op_eq (pv 0) pe_int (nomark _)) (pss_one ps_never) (pss_one (ps_if (pt_cmpR op_eq (pv 0) pe_int (nomark _)) (pss_one ps_never) (pss_one (ps_if (pt_cmpR op_eq (pv 0) pe_int (nomark _)) (pss_one ps_never) (pss_one (ps_expr (pe_clX c_two_readE tk hr (by first | decide | omega) (by rfl) (pa_cons (pv 1) (pa_cons (pv 2) (pa_cons (pv 2) (pa_cons (pv 3) (pa_cons pe_non pa_nil))))))))))))))) (fun a pn => pss_one (ps_set (i := 4) sc__law_caught.nd rfl (.inl rfl) (pv 5))))
      (pss_one (ps_ret (pe_cl c_kind hr (by first | decide | omega) (by rfl) (pa_cons (pv 4) pa_nil)))))), ?_⟩
        refine q_asg ev_c fun H1 e1 => ?_
        refine q_cut (M := fun σ' H' => Ex H H' ∧ ∃ (x : Addr), TyC K H' (.ref x) (.ref (C 1)) ∧ σ' = [some (vi 3), some u, some o, some v, some (.ref x), none]) ?_ (fun σ' H' hM => ?_)
        · show tIfS _ _ _ _ [some (vi 3), some u, some o, some v, some .non, none] H1
          refine s_if (b := false) (et_noI (n := 3) (i := 0) rfl (by decide)) (fun hb => by cases hb) (fun _ J0 g0 => ?_)
          refine s_if (b := false) (et_noI (n := 3) (i := 0) rfl (by decide)) (fun hb => by cases hb) (fun _ J1 g1 => ?_)
          refine s_if (b := false) (et_noI (n := 3) (i := 0) rfl (by decide)) (fun hb => by cases hb) (fun _ J2 g2 => ?_)
          exact do_callS ((ea_cons (ev_var rfl) (ea_cons (ev_var rfl) (ea_cons (ev_var rfl) (ea_cons (ev_var rfl) (ea_cons ev_c ea_nil))))) J2 (Ex.refl _) _ fun I1 f1 => ⟨z, ⟨_, _, _, rfl, hz.ex ((((e1.trans g0).trans g1).trans g2).trans f1)⟩, fun I2 f2 => ⟨er.xm 1 h1, fun a na => s_asg (ev_var rfl) fun I3 f3 => ⟨(((((e1.trans g0).trans g1).trans g2).trans f1).trans f2).trans (kept_at er h1 na f3).1, a, (kept_at er h1 na f3).2, rfl⟩⟩⟩)
        · obtain ⟨e2, x, tc, hσ⟩ := hM
          subst hσ
          exact s_retL (el_call 1 (ea_cons (ev_var rfl) ea_nil) (fun H5 e5 => ⟨⟨_, rfl, (fun z => by cases z), tc.ex e5⟩, h1⟩)) fun p H5 np e5 hp => q p H5 (fresh_back e2 np) (e2.trans e5) hp
    | false =>
      rw [ok] at q
      have bad := isNone_f ok
      rcases this with rfl | rfl | rfl
      · have c_term_readE := c_term_readB
        refine ⟨_, (pss_cons (ps_set (i := 4) sc__law_caught.nd rfl (.inl rfl) pe_non)
      (pss_cut (ps_try_trk (i := 5) rfl rfl rfl sc__law_caught.nd rfl rfl ⟨rfl, by decide, .inl er.g⟩ (fun W pn xe tk _ => (pss_one (ps_if (pt_cmpR op_eq (pv 0) pe_int (nomark _)) (pss_one ps_never) (pss_one (ps_if (pt_cmpR op_eq (pv 0) pe_int (nomark _)) (pss_one (ps_expr (pe_clX c_term_readE tk hr (by first | decide | omega) (by rfl) (pa_cons (pv 1) (pa_cons (pv 2) (pa_cons (pv 3) (pa_cons pe_non pa_nil))))))) (pss_one (ps_if (pt_cmpR op_eq (pv 0) pe_int (nomark _)) (pss_one ps_never) (pss_one ps_never)))))))) (fun a pn => pss_one (ps_set (i := 4) sc__law_caught.nd rfl (.inl rfl) (pv 5))))
      (pss_one (ps_ret (pe_cl c_kind hr (by first | decide | omega) (by rfl) (pa_cons (pv 4) pa_nil)))))), ?_⟩
        refine q_asg ev_c fun H1 e1 => ?_
        refine q_cut (M := fun σ' H' => Ex H H' ∧ ∃ (x : Addr), TyC K H' (.ref x) (.ref (C 1)) ∧ σ' = [some (vi 1), some u, some o, some v, some (.ref x), none]) ?_ (fun σ' H' hM => ?_)
        · show tIfS _ _ _ _ [some (vi 1), some u, some o, some v, some .non, none] H1
          refine s_if (b := false) (et_noI (n := 1) (i := 0) rfl (by decide)) (fun hb => by cases hb) (fun _ J0 g0 => ?_)
          refine s_if (b := true) (et_yesI (n := 1) (i := 0) rfl (by decide)) (fun _ J1 g1 => ?_) (fun hb => by cases hb)
          exact do_callS ((ea_cons (ev_var rfl) (ea_cons (ev_var rfl) (ea_cons (ev_var rfl) (ea_cons ev_c ea_nil)))) J1 (Ex.refl _) _ fun I1 f1 => ⟨z, ⟨_, _, _, _, rfl, hz.ex (((e1.trans g0).trans g1).trans f1), bad⟩, fun I2 f2 => ⟨er.xm 1 h1, fun a na => s_asg (ev_var rfl) fun I3 f3 => ⟨((((e1.trans g0).trans g1).trans f1).trans f2).trans (kept_at er h1 na f3).1, a, (kept_at er h1 na f3).2, rfl⟩⟩⟩)
        · obtain ⟨e2, x, tc, hσ⟩ := hM
          subst hσ
          exact s_retL (el_call 1 (ea_cons (ev_var rfl) ea_nil) (fun H5 e5 => ⟨⟨_, rfl, (fun z => by cases z), tc.ex e5⟩, h1⟩)) fun p H5 np e5 hp => q p H5 (fresh_back e2 np) (e2.trans e5) hp
      · have c_model_readE := c_model_readB
        refine ⟨_, (pss_cons (ps_set (i := 4) sc__law_caught.nd rfl (.inl rfl) pe_non)
      (pss_cut (ps_try_trk (i := 5) rfl rfl rfl sc__law_caught.nd rfl rfl ⟨rfl, by decide, .inl er.g⟩ (fun W pn xe tk _ => (pss_one (ps_if (pt_cmpR op_eq (pv 0) pe_int (nomark _)) (pss_one ps_never) (pss_one (ps_if (pt_cmpR op_eq (pv 0) pe_int (nomark _)) (pss_one ps_never) (pss_one (ps_if (pt_cmpR op_eq (pv 0) pe_int (nomark _)) (pss_one (ps_expr (pe_clX c_model_readE tk hr (by first | decide | omega) (by rfl) (pa_cons (pv 1) (pa_cons (pv 2) (pa_cons (pv 3) (pa_cons pe_non pa_nil))))))) (pss_one ps_never)))))))) (fun a pn => pss_one (ps_set (i := 4) sc__law_caught.nd rfl (.inl rfl) (pv 5))))
      (pss_one (ps_ret (pe_cl c_kind hr (by first | decide | omega) (by rfl) (pa_cons (pv 4) pa_nil)))))), ?_⟩
        refine q_asg ev_c fun H1 e1 => ?_
        refine q_cut (M := fun σ' H' => Ex H H' ∧ ∃ (x : Addr), TyC K H' (.ref x) (.ref (C 1)) ∧ σ' = [some (vi 2), some u, some o, some v, some (.ref x), none]) ?_ (fun σ' H' hM => ?_)
        · show tIfS _ _ _ _ [some (vi 2), some u, some o, some v, some .non, none] H1
          refine s_if (b := false) (et_noI (n := 2) (i := 0) rfl (by decide)) (fun hb => by cases hb) (fun _ J0 g0 => ?_)
          refine s_if (b := false) (et_noI (n := 2) (i := 0) rfl (by decide)) (fun hb => by cases hb) (fun _ J1 g1 => ?_)
          refine s_if (b := true) (et_yesI (n := 2) (i := 0) rfl (by decide)) (fun _ J2 g2 => ?_) (fun hb => by cases hb)
          exact do_callS ((ea_cons (ev_var rfl) (ea_cons (ev_var rfl) (ea_cons (ev_var rfl) (ea_cons ev_c ea_nil)))) J2 (Ex.refl _) _ fun I1 f1 => ⟨z, ⟨_, _, _, _, rfl, hz.ex ((((e1.trans g0).trans g1).trans g2).trans f1), bad⟩, fun I2 f2 => ⟨er.xm 1 h1, fun a na => s_asg (ev_var rfl) fun I3 f3 => ⟨(((((e1.trans g0).trans g1).trans g2).trans f1).trans f2).trans (kept_at er h1 na f3).1, a, (kept_at er h1 na f3).2, rfl⟩⟩⟩)
        · obtain ⟨e2, x, tc, hσ⟩ := hM
          subst hσ
          exact s_retL (el_call 1 (ea_cons (ev_var rfl) ea_nil) (fun H5 e5 => ⟨⟨_, rfl, (fun z => by cases z), tc.ex e5⟩, h1⟩)) fun p H5 np e5 hp => q p H5 (fresh_back e2 np) (e2.trans e5) hp
      · refine ⟨_, (pss_cons (ps_set (i := 4) sc__law_caught.nd rfl (.inl rfl) pe_non)
      (pss_cut (ps_try_trk (i := 5) rfl rfl rfl sc__law_caught.nd rfl rfl ⟨rfl, by decide, .inl er.g⟩ (fun W pn xe tk _ => (pss_one (ps_if (pt_cmpR op_eq (pv 0) pe_int (nomark _)) (pss_one ps_never) (pss_one (ps_if (pt_cmpR op_eq (pv 0) pe_int (nomark _)) (pss_one ps_never) (pss_one (ps_if (pt_cmpR op_eq (pv 0) pe_int (nomark _)) (pss_one ps_never) (pss_one (ps_expr (pe_clX c_two_readE tk hr (by first | decide | omega) (by rfl) (pa_cons (pv 1) (pa_cons (pv 2) (pa_cons (pv 2) (pa_cons (pv 3) (pa_cons pe_non pa_nil))))))))))))))) (fun a pn => pss_one (ps_set (i := 4) sc__law_caught.nd rfl (.inl rfl) (pv 5))))
      (pss_one (ps_ret (pe_cl c_kind hr (by first | decide | omega) (by rfl) (pa_cons (pv 4) pa_nil)))))), ?_⟩
        refine q_asg ev_c fun H1 e1 => ?_
        refine q_cut (M := fun σ' H' => Ex H H' ∧ ∃ (x : Addr), TyC K H' (.ref x) (.ref (C 1)) ∧ σ' = [some (vi 3), some u, some o, some v, some (.ref x), none]) ?_ (fun σ' H' hM => ?_)
        · show tIfS _ _ _ _ [some (vi 3), some u, some o, some v, some .non, none] H1
          refine s_if (b := false) (et_noI (n := 3) (i := 0) rfl (by decide)) (fun hb => by cases hb) (fun _ J0 g0 => ?_)
          refine s_if (b := false) (et_noI (n := 3) (i := 0) rfl (by decide)) (fun hb => by cases hb) (fun _ J1 g1 => ?_)
          refine s_if (b := false) (et_noI (n := 3) (i := 0) rfl (by decide)) (fun hb => by cases hb) (fun _ J2 g2 => ?_)
          exact do_callS ((ea_cons (ev_var rfl) (ea_cons (ev_var rfl) (ea_cons (ev_var rfl) (ea_cons (ev_var rfl) (ea_cons ev_c ea_nil))))) J2 (Ex.refl _) _ fun I1 f1 => ⟨z, ⟨_, _, _, rfl, hz.ex ((((e1.trans g0).trans g1).trans g2).trans f1)⟩, fun I2 f2 => ⟨er.xm 1 h1, fun a na => s_asg (ev_var rfl) fun I3 f3 => ⟨(((((e1.trans g0).trans g1).trans g2).trans f1).trans f2).trans (kept_at er h1 na f3).1, a, (kept_at er h1 na f3).2, rfl⟩⟩⟩)
        · obtain ⟨e2, x, tc, hσ⟩ := hM
          subst hσ
          exact s_retL (el_call 1 (ea_cons (ev_var rfl) ea_nil) (fun H5 e5 => ⟨⟨_, rfl, (fun z => by cases z), tc.ex e5⟩, h1⟩)) fun p H5 np e5 hp => q p H5 (fresh_back e2 np) (e2.trans e5) hp
end
end K11
end
section
namespace K11
open PySem PySem.Spec PyProof.Rows L2 Evl RZ Dw M20
section
variable {P : Program} {w : World} {K : PySem.W.Frag} {mg : Str → Option Value} {base : Heap} {σ : L2.St} {H H' Hb : Hp} {p c : Addr} {n m k W : Nat} {v : V} {d : PyData} {ta tb : TE}
theorem dps_get : ∀ {vs : List V} {ds : List PyData}, vs.length = ds.length → (∀ (i : Nat) v d, vs[i]? = some v → ds[i]? = some d → Dp K H v d) → DpAll K H vs ds
  | [], [], _, _ => .nil
  | [], d :: ds, l, _ => by cases l
  | v :: vs, [], l, _ => by cases l
  | v :: vs, d :: ds, l, h => .cons (h 0 v d rfl rfl) (dps_get (by rw [List.length_cons, List.length_cons] at l; omega) fun i v d a b => h (i + 1) v d a b)
theorem ep_lcNewsF {xs : List V} {tl te : TE} {j : Nat} {vs : List Nat} {z : Nat → Str} (h : EvL tl σ H xs) (hn : xs.length ≤ 100) (hwp : ∀ x, wipe ((wipe σ vs).set j (some x)) vs = wipe σ vs) (he : ∀ (i : Nat) x H1, Ex H H1 → xs[i]? = some x → EvL te ((wipe σ vs).set j (some x)) H1 [.str (z i)]) :
    EvP (tLc (iList K tl) (gName j) tYes te vs) σ H (fun v H' => Dp K H' v (.list ((List.range xs.length).map fun i => .list [.str (z i)]))) := fun H0 e Q q => h H0 e _ fun a H1 na e1 ha => ⟨a, rfl, ⟨xs, sq_of ha⟩, fun Dl nD => lc_it (walk_list (K := K) (a := a) (xs := xs)) (fun i H2 => Ex H1 H2 ∧ ∃ bs : List Addr, H2 Dl = some (.lst (bs.map V.ref)) ∧ bs.length = i ∧ ∀ (k : Nat) b, bs[k]? = some b → b ≠ Dl ∧ H2 b = some (.lst [.str (z k)])) ⟨Ex.new nD, [], upd_same, rfl, fun k b hb => by cases hb⟩
    (fun i H2 _ y => sq_of (y.1 _ _ ha)) (fun i x H2 H3 hi y yy => by
      obtain ⟨rfl, hx⟩ := yy
      obtain ⟨e2, bs, hD, lb, hb⟩ := y
      refine ⟨hwp x, et_yes _ (Ex.refl _) _ fun H5 e5 => ?_⟩
      refine iteT ?_
      refine he i x H5 ((e.trans e1).trans (e2.trans e5)) hx _ (Ex.refl _) _ fun b H4 nb e4 hb4 => ⟨_, e4 _ _ (e5 _ _ hD), sz_lt (by rw [List.length_map]; omega), ((e2.trans e5).trans e4).mut nD, bs ++ [b], ?_, by rw [List.length_append, lb]; rfl, fun k b2 h2 => ?_⟩
      · rw [upd_same, List.map_append]
        rfl
      · have bD : b ≠ Dl := fun z => by
          rw [z, e5 _ _ hD] at nb
          cases nb
        by_cases kl : k < bs.length
        · rw [List.getElem?_append_left kl] at h2
          exact ⟨(hb k b2 h2).1, by rw [upd_ne (hb k b2 h2).1]; exact e4 _ _ (e5 _ _ (hb k b2 h2).2)⟩
        · rw [List.getElem?_append_right (by omega)] at h2
          have k0 : k = bs.length := by
            have := (List.getElem?_eq_some_iff.mp h2).1
            rw [List.length_singleton] at this
            omega
          rw [k0, Nat.sub_self] at h2
          cases Option.some.inj h2
          rw [k0, lb]
          exact ⟨bD, by rw [upd_ne bD]; exact hb4⟩) (fun H2 y => by
      obtain ⟨e2, bs, hD, lb, hb⟩ := y
      refine q _ H2 (e1.trans e2) (.lst (sq_of hD) (dps_get (by rw [List.length_map, List.length_map, List.length_range, lb]) fun i v d hv hd => ?_))
      rw [List.getElem?_map] at hv hd
      cases hb2 : bs[i]? with
      | none =>
        rw [hb2] at hv
        cases hv
      | some b =>
        rw [hb2] at hv
        cases hv
        have il : i < xs.length := by
          have := (List.getElem?_eq_some_iff.mp hb2).1
          omega
        rw [List.getElem?_range il] at hd
        cases Option.some.inj hd
        exact .lst (sq_of (hb i b hb2).2) (.cons (.str _) .nil))⟩
theorem ep_three {x y z : Str} : EvP (tLst (tCons (tLst (tCons (tC (.str x)) tNil)) (tCons (tLst (tCons (tC (.str y)) tNil)) (tCons (tLst (tCons (tC (.str z)) tNil)) tNil)))) σ H (fun v H' => Dp K H' v (.list [.list [.str x], .list [.str y], .list [.str z]])) := fun H1 e Q q => do_lst (do_cons (el_lst (vs := [.str x]) (ea_cons ev_c ea_nil) (by show 1 ≤ 100000; decide) H1 e _ fun b H2 nb e2 hb => do_cons (el_lst (vs := [.str y]) (ea_cons ev_c ea_nil) (by show 1 ≤ 100000; decide) H2 (e.trans e2) _ fun d H3 nd e3 hd => do_cons (el_lst (vs := [.str z]) (ea_cons ev_c ea_nil) (by show 1 ≤ 100000; decide) H3 ((e.trans e2).trans e3) _ fun f H4 nf e4 hf => do_nil ⟨by show 3 ≤ sizeLine; decide, fun a na => by
  have e5 : Ex H4 (upd H4 a (.lst [.ref b, .ref d, .ref f])) := Ex.new na
  exact q _ _ (((e2.trans e3).trans e4).trans e5) (.lst (sq_of upd_same) (.cons (.lst (sq_of (e5 _ _ (e4 _ _ (e3 _ _ hb)))) (.cons (.str x) .nil)) (.cons (.lst (sq_of (e5 _ _ (e4 _ _ hd))) (.cons (.str y) .nil)) (.cons (.lst (sq_of (e5 _ _ hf)) (.cons (.str z) .nil)) .nil))))⟩))))
theorem ev_eqSame (ha : EvP ta σ H fun v H' => Dp K H' v d) (hb : EvP tb σ H fun v H' => Dp K H' v d) (sh : SeqAt.shaped d = true) (l : d.canLay0 = true) : Ev (tOp (rEqD K) ta tb) σ H (.bl true) := fun H1 e Q q =>
  ha H1 e _ fun x H2 e2 hx => hb H2 (e.trans e2) _ fun y H3 e3 hy => ⟨d, d, dp_ex e3 hx, hy, sh, sh, by
    rw [SeqAt.eqv_refl d l]
    exact q H3 (e2.trans e3)⟩
theorem et_isNoneP {ta : TE} (h : EvP ta σ H fun v _ => ∃ a, v = .ref a) : EvT (tTest (tOp (fun x y H Q => y = .non ∧ Q (.bl (decide (x = .non))) H) ta (tC .non))) σ H false := fun H1 e Q q => h H1 e _ fun v H2 e2 ⟨a, hv⟩ => by
  subst hv
  exact ⟨rfl, _, rfl, q H2 e2⟩
def dueD (ok : Bool) : PyData := .list [.list [.str (markW (dueN 1 ok))], .list [.str (markW (dueN 2 ok))], .list [.str (markW (dueN 3 ok))]]
theorem dueD_ok : ∀ ok, SeqAt.shaped (dueD ok) = true ∧ (dueD ok).canLay0 = true := by decide +kernel
/-- _law_refused tells True -/
def sp_refused (K : PySem.W.Frag) : Sp := spX (RdPre K) (fun _ v _ => v = .bl true)
theorem c_refused (T : Txt mg) (D : Df K mg "_law_refused" s__law_refused ["_law_first", "_law_second", "_law_thing"]) (c_due : Cl P w K mg base 12 "_law_due" (sp_reading_any K)) (c_caughtD : Cl P w K mg base 9 "_law_caught" (sp_caughtD K)) : Cl P w K mg base 13 "_law_refused" (sp_refused K) := by
  refine cl_of (k := 12) D sc__law_refused (fun vs H Q E h => ?_) (fun f cdv A outer s H vs Q E hr h => ?_)
  · obtain ⟨z, ⟨⟨u, o, v, rfl, _⟩, _⟩, _⟩ := h
    rfl
  · obtain ⟨z, hz, q⟩ := h
    obtain ⟨⟨u, o, v, rfl, _⟩, _⟩ := id hz
    have c_caught := c_caughtD
    refine ⟨_, (pss_cons (ps_set (i := 3) sc__law_refused.nd rfl (.inl rfl) (pe_lst (pa_cons (pe_lst (pa_cons pe_str pa_nil)) (pa_cons (pe_lst (pa_cons pe_str pa_nil)) (pa_cons (pe_lst (pa_cons pe_str pa_nil)) pa_nil)))))
      (pss_cons (ps_if (pt_cmpR op_isN (pe_cl c_due hr (by first | decide | omega) (by rfl) (pa_cons (pv 0) (pa_cons (pv 1) (pa_cons (pv 2) pa_nil)))) pe_non (nomark _))
        (pss_one (ps_set (i := 3) sc__law_refused.nd rfl (.inl rfl) (pe_lst (pa_cons (pe_lst (pa_cons pe_str pa_nil)) (pa_cons (pe_lst (pa_cons pe_str pa_nil)) (pa_cons (pe_lst (pa_cons pe_str pa_nil)) pa_nil))))))
        pss_nil)
      (pss_one (ps_ret (pe_cmpR (op_eqD hr.units) (pe_lc (own := [("_law_which", 4)]) (g := (gName 4)) (by rfl) sc__law_refused.nd (pi_list (pe_lst (pa_cons pe_int (pa_cons pe_int (pa_cons pe_int pa_nil))))) (blkOk_by (own := [("_law_which", 4)]) (N := ["_law_first", "_law_second", "_law_thing", "_law_due_here", "_law_which"]) (sc := defScope s__law_refused) (by decide +kernel)) (fun _ _ _ _ _ => (pg_name (i := 4) sc__law_refused.nd rfl (.inl rfl))) (fun _ _ _ _ _ => pts_nil) (fun _ _ _ _ _ => (pe_cl c_caught hr (by first | decide | omega) (by rfl) (pa_cons (pv 4) (pa_cons (pv 0) (pa_cons (pv 1) (pa_cons (pv 2) pa_nil))))))) (pv 3) (nomark _)))))), ?_⟩
    replace q : ∀ r H', Ex H H' → r = .bl true → Q r H' := q
    have call : ∀ {H1 : Hp} {x : Option V} {E : XK}, Ex H H1 → EvP (tCall (sp_reading_any K) [] E (tCons (tVar 0) (tCons (tVar 1) (tCons (tVar 2) tNil)))) [some u, some o, some v, x, none] H1 (fun r H2 => Dp K H2 r (rdW z.1.1 z.2)) := fun {H1 x E} e1 => ep_call z (ea_cons (ev_var rfl) (ea_cons (ev_var rfl) (ea_cons (ev_var rfl) ea_nil))) (fun H2 e2 => hz.ex (e1.trans e2))
    have fin : ∀ {H3 : Hp} {x : V}, Ex H H3 → Dp K H3 x (dueD (isNone (rdW z.1.1 z.2))) → tRet (tOp (rEqD K) (tLc (iList K (tLst (tCons (tC (.int 1)) (tCons (tC (.int 2)) (tCons (tC (.int 3)) tNil))))) (gName 4) tYes (tCall (sp_caughtD K) [] E0 (tCons (tVar 4) (tCons (tVar 0) (tCons (tVar 1) (tCons (tVar 2) tNil))))) [4]) (tVar 3)) { nx := fun _ H' => Q .non H', rt := Q } [some u, some o, some v, some x, none] H3 := fun {H3 x} e3 hx => s_ret (ev_eqSame (d := dueD (isNone (rdW z.1.1 z.2))) (ep_lcNewsF (xs := [.int 1, .int 2, .int 3]) (z := fun i => markW (dueN (i + 1) (isNone (rdW z.1.1 z.2)))) (el_lst (ea_cons ev_c (ea_cons ev_c (ea_cons ev_c ea_nil))) (by show 3 ≤ 100000; decide)) (by show 3 ≤ 100; decide) (fun _ => rfl) (fun i y H4 e4 hy => by
      have il : i < 3 := (List.getElem?_eq_some_iff.mp hy).1
      have yv : y = vi (i + 1) := by
        have : i = 0 ∨ i = 1 ∨ i = 2 := by omega
        rcases this with rfl | rfl | rfl <;> exact (Option.some.inj hy).symm
      subst yv
      exact el_call (i + 1, z) (ea_cons (ev_var rfl) (ea_cons (ev_var rfl) (ea_cons (ev_var rfl) (ea_cons (ev_var rfl) ea_nil)))) (fun H5 e5 => ⟨⟨by show 1 ≤ i + 1; omega, by show i + 1 < 4; omega⟩, u, o, v, rfl, hz.ex ((e3.trans e4).trans e5)⟩))) (ep_ev (ev_var rfl) fun H4 e4 => dp_ex e4 hx) (dueD_ok _).1 (dueD_ok _).2) fun H4 e4 => q _ H4 (e3.trans e4) rfl
    refine q_asgP (ep_three (K := K)) fun x H1 e1 hx => ?_
    show tSeq _ _ _ [some u, some o, some v, some x, none] H1
    cases ok : isNone (rdW z.1.1 z.2) with
    | true =>
      have good := isNone_t ok
      refine q_when (b := true) (et_is (et_isNone (ev_ep ((call e1).imp fun r H2 _ y => by
        rw [good] at y
        cases y
        exact rfl))) rfl) (fun _ H2 e2 => ?_) (fun hb => by cases hb)
      refine do_asg (ep_three (K := K) H2 (Ex.refl _) _ fun x2 H3 e3 hx2 => ?_)
      exact fin ((e1.trans e2).trans e3) (by rw [ok]; exact hx2)
    | false =>
      refine q_when (b := false) (et_isNoneP ((call e1).imp fun r H2 _ y => w_ref y (isNone_f ok) (rdW_tup _ _))) (fun hb => by cases hb) (fun _ H2 e2 => ?_)
      exact fin (e1.trans e2) (by rw [ok]; exact dp_ex e2 hx)
end
end K11
end
section
namespace K11
open PySem PySem.Spec PyProof.Rows L2 Evl RZ Dw M20
section
variable {P : Program} {w : World} {K : PySem.W.Frag} {mg : Str → Option Value} {base : Heap} {σ : L2.St} {H H' Hb : Hp} {p c : Addr} {n m k W t : Nat} {v : V} {d : PyData} {ta tb te : TE} {sg sg2 : List (Str × Nat)} {xs0 : List V}
/-- what may stand in a reading -/
def ElS (K : PySem.W.Frag) (sg : List (Str × Nat)) (v : V) (H : Hp) : Prop := ∃ b : Bt, BtV K H sg b v ∧ b.ok sg ∧ b.sz ≤ 8 ∧ Gb 30 1100 b.data
theorem ElS.ex {v : V} (e : Ex H H') (h : ElS K sg v H) : ElS K sg v H' := let ⟨b, x, r⟩ := h; ⟨b, x.ex e, r⟩
theorem ElS.off (pu : Pur H p c n) (o : Off H H' p c) (h : ElS K sg v H) : ElS K sg v H' := let ⟨b, x, r⟩ := h; ⟨b, x.off pu o, r⟩
theorem els_th (so : SigOk sg) (h : ThB K H sg v) : ElS K sg v H := by
  obtain ⟨b, x, ok, f, s⟩ := h
  have g := gd_bt so b ok f
  exact ⟨b, x, ok, by omega, (K11.Gd.gb g).mono (by omega) (by omega)⟩
theorem els_tm (so : SigOk sg) {y : Tm} (tv : TmV K H y v) (ok : y.ok sg) (s : y.sz ≤ 7) : ElS K sg v H := by
  obtain ⟨a, b, _, z⟩ := bt_all y tv ok
  exact ⟨y.bt, a, b, by omega, by rw [bt_data]; exact (gb_sml so tv ok s).mono (by decide) (by decide)⟩
/-- rows of them are things -/
def Thg (K : PySem.W.Frag) (sg : List (Str × Nat)) (v : V) (H : Hp) : Prop := ∃ th, RtV K H sg th v ∧ th.ok sg
theorem Thg.st : ∀ v H H', Ex H H' → Thg K sg v H → Thg K sg v H' := fun _ _ _ e ⟨th, a, r⟩ => ⟨th, a.ex e, r⟩
theorem Thg.off (pu : Pur H p c n) (o : Off H H' p c) (h : Thg K sg v H) : Thg K sg v H' := let ⟨th, a, r⟩ := h; ⟨th, a.off pu o, r⟩
theorem els_row : ∀ {us : List V}, (∀ x ∈ us, ElS K sg x H) → ∃ bs, BtsV K H sg bs us ∧ boks sg bs ∧ (∀ b ∈ bs, b.sz ≤ 8 ∧ Gb 30 1100 b.data) ∧ bs.length = us.length
  | [], _ => ⟨[], .nil, by rw [boks]; trivial, fun _ z => (nomatch z), rfl⟩
  | x :: us, h => by
    obtain ⟨b, h1, h2, h3, h4⟩ := h x (List.mem_cons_self ..)
    obtain ⟨bs, g1, g2, g3, g4⟩ := els_row (us := us) fun y hy => h y (List.mem_cons_of_mem _ hy)
    refine ⟨b :: bs, by rw [BtsV]; exact ⟨x, us, rfl, h1, g1⟩, by rw [boks]; exact ⟨h2, g2⟩, fun y hy => ?_, by rw [List.length_cons, List.length_cons, g4]⟩
    rcases List.mem_cons.mp hy with z | z
    · rw [z]
      exact ⟨h3, h4⟩
    · exact g3 y z
theorem bdatas_map : ∀ bs : List Bt, bdatas bs = bs.map (·.data)
  | [] => by
    rw [bdatas]
    rfl
  | b :: bs => by rw [bdatas, List.map_cons, bdatas_map bs]
theorem thg_row {us : List V} (h : TupV K H v us) (all : ∀ x ∈ us, ElS K sg x H) (l : us.length ≤ 5) : Thg K sg v H := by
  obtain ⟨a, rfl, s⟩ := h
  obtain ⟨bs, g1, g2, g3, g4⟩ := els_row all
  refine ⟨.row bs, ⟨a, us, rfl, s, g1⟩, ⟨g2, fun b hb => (g3 b hb).1, by omega⟩, ?_⟩
  show Gb 40 6000 (.tuple (bdatas bs))
  rw [bdatas_map]
  refine (gb_tup (gba_all (k := 30) (W := 1100) fun d hd => ?_)).mono (by decide) (by rw [List.length_map]; omega)
  obtain ⟨b, hb, rfl⟩ := List.mem_map.mp hd
  exact (g3 b hb).2
theorem gb_datas (so : SigOk sg) : ∀ {ts : List Tm} {us : List V}, TmsV K H ts us → (∀ t ∈ ts, t.ok sg ∧ t.sz ≤ 7) → ∀ d ∈ datas ts, Gb 30 1100 d
  | [], us, _, _, d, hd => by
    rw [datas] at hd
    cases hd
  | y :: ts, us, tv, h, d, hd => by
    rw [TmsV] at tv
    obtain ⟨u, r, rfl, a, b⟩ := tv
    rw [datas, List.mem_cons] at hd
    rcases hd with z | z
    · rw [z]
      exact (gb_sml so a (h y (List.mem_cons_self ..)).1 (h y (List.mem_cons_self ..)).2).mono (by decide) (by decide)
    · exact gb_datas so b (fun t ht => h t (List.mem_cons_of_mem _ ht)) d z
/-- list(own) -/
theorem thg_list {ts : List Tm} {us : List V} {l : Addr} (so : SigOk sg) (tv : TmsV K H ts us) (oks : ∀ t ∈ ts, t.ok sg ∧ t.sz ≤ 7) (hl : H l = some (.lst us)) (n5 : ts.length ≤ 5) : Thg K sg (.ref l) H := by
  have far : FarL H us := by
    cases ts with
    | nil =>
      rw [TmsV] at tv
      rw [tv]
      exact far0
    | cons y r =>
      rw [TmsV] at tv
      obtain ⟨u, r2, rfl, a, _⟩ := tv
      exact far_tm a
  refine ⟨.odd (.list (datas ts)), ⟨.lst hl tv.dp (noLs_tm ts) far, .lst hl far⟩, trivial, ?_⟩
  show Gb 40 6000 (.list (datas ts))
  exact (gb_lst (gba_all (k := 30) (W := 1100) (gb_datas so tv oks))).mono (by decide) (by rw [datas_len]; omega)
theorem catA {a b : Addr} {xs ys : List V} {Q : VK} (sa : SqT K H a xs) (sb : SqT K H b ys) (hl : xs.length + ys.length ≤ 100000) (q : ∀ v H', Ex H H' → TupV K H' v (xs ++ ys) → Q v H') : rCatA K (.ref a) (.ref b) H Q :=
  ep_cat (K := K) (σ := []) (H := H) (ta := tC (.ref a)) (tb := tC (.ref b)) (xs := xs) (ys := ys) (ep_ev ev_c fun H' e => ⟨a, rfl, ex_t e sa⟩) (ep_ev ev_c fun H' e => ⟨b, rfl, ex_t e sb⟩) hl H (Ex.refl H) Q q
theorem ep_cutM2 {ta tl th : TE} {a : Addr} {xs : List V} {i k : Nat} (h : Ev ta σ H (.ref a)) (hx : SqT K H a xs) (hl : Ev tl σ H (vi i)) (hb : Ev th σ H (vi k)) : EvP (tSl (rSlA K) ta (tPart tl) (tPart th)) σ H (fun v H' => ∃ ys, TupV K H' v ys ∧ (∀ x ∈ ys, x ∈ xs) ∧ (i ≤ k → ys.length ≤ k - i)) := fun H1 e1 Q q =>
  h H1 e1 _ fun H2 e2 => hl H2 (e1.trans e2) _ fun H3 e3 => ⟨(i : Int), rfl, hb H3 ((e1.trans e2).trans e3) _ fun H4 e4 => by
    have s4 := ex_t (((e1.trans e2).trans e3).trans e4) hx
    have si : HT.sIx xs.length 0 (some (i : Int)) = min i xs.length := HT.sIx_nat _ _ i
    have sk : HT.sIx xs.length xs.length (some (k : Int)) = min k xs.length := HT.sIx_nat _ _ k
    refine ⟨(k : Int), rfl, a, xs, rfl, s4, fun z => ?_, fun _ p np => ?_⟩
    · have z1 : HT.sIx xs.length 0 (some (i : Int)) = 0 := z.1
      have z2 : HT.sIx xs.length xs.length (some (k : Int)) = xs.length := z.2
      rw [si] at z1
      rw [sk] at z2
      exact q _ H4 ((e2.trans e3).trans e4) ⟨xs, ⟨a, rfl, s4⟩, fun x hx => hx, fun ik => by omega⟩
    · refine q _ _ (((e2.trans e3).trans e4).trans (Ex.new np)) ⟨cutV xs (some (i : Int)) (some (k : Int)), ⟨p, rfl, st_of upd_same⟩, fun x hx => ?_, fun ik => ?_⟩
      · exact List.mem_of_mem_drop (List.mem_of_mem_take hx)
      · show ((xs.drop _).take _).length ≤ _
        rw [List.length_take, si, sk]
        omega⟩
theorem ev_plus {te : TE} {k : Nat} {z : Nat} (h : Ev te σ H (vi k)) : Ev (tOp (rI0 fun i j => .int (i + j)) te (tC (.int (z : Int)))) σ H (vi (k + z)) := ev_is (ev_op h ev_c rv_I0) (by
  show V.int ((k : Int) + (z : Int)) = V.int ((k + z : Nat) : Int)
  rw [Int.natCast_add])
end
end K11
end
section
namespace K11
open PySem PySem.Spec PyProof.Rows L2 Evl RZ Dw M20
section
variable {P : Program} {w : World} {K : PySem.W.Frag} {mg : Str → Option Value} {base : Heap} {σ : L2.St} {H H' Hb : Hp} {p c : Addr} {n m k W t : Nat} {v : V} {d : PyData} {ta tb te tc : TE} {sg sg2 : List (Str × Nat)} {xs0 : List V}
/-- a tuple of at most so many -/
def Row (K : PySem.W.Frag) (sg : List (Str × Nat)) (n : Nat) (v : V) (H : Hp) : Prop := ∃ ys, TupV K H v ys ∧ (∀ x ∈ ys, ElS K sg x H) ∧ ys.length ≤ n
theorem Row.ex (e : Ex H H') (h : Row K sg n v H) : Row K sg n v H' := let ⟨ys, a, b, l⟩ := h; ⟨ys, a.ex e, fun x hx => (b x hx).ex e, l⟩
theorem Row.off (pu : Pur H p c m) (o : Off H H' p c) (h : Row K sg n v H) : Row K sg n v H' := by
  obtain ⟨ys, ⟨a, rfl, s⟩, b, l⟩ := h
  exact ⟨ys, ⟨a, rfl, o.et pu _ _ s⟩, fun x hx => (b x hx).off pu o, l⟩
theorem Row.thg (h : Row K sg n v H) (l : n ≤ 5) : Thg K sg v H := let ⟨ys, a, b, l2⟩ := h; thg_row a b (Nat.le_trans l2 l)
theorem row_cat {a b : V} {Q : VK} (ha : Row K sg n a H) (hb : Row K sg m b H) (l : n + m ≤ 100) (q : ∀ v H', Ex H H' → Row K sg (n + m) v H' → Q v H') : rCatA K a b H Q := by
  obtain ⟨xs, ⟨a, rfl, sa⟩, ea, la⟩ := ha
  obtain ⟨ys, ⟨b, rfl, sb⟩, eb, lb⟩ := hb
  exact catA sa sb (by omega) fun v H' e hv => q v H' e ⟨xs ++ ys, hv, fun x hx => (List.mem_append.mp hx).elim (fun z => (ea x z).ex e) (fun z => (eb x z).ex e), by rw [List.length_append]; omega⟩
theorem ep_catW (ha : EvP ta σ H (Row K sg n)) (hb : EvP tb σ H (Row K sg m)) (l : n + m ≤ 100) : EvP (tOp (rCatA K) ta tb) σ H (Row K sg (n + m)) := fun H1 e Q q => ha H1 e _ fun a H2 e2 h2 => hb H2 (e.trans e2) _ fun b H3 e3 h3 => row_cat (h2.ex e3) h3 l fun v H4 e4 h4 => q v H4 ((e2.trans e3).trans e4) h4
theorem ep_oneW (h : EvP te σ H (ElS K sg)) : EvP (tTup (tCons te tNil)) σ H (Row K sg 1) := fun H1 e Q q => do_tup (do_cons (h H1 e _ fun v H2 e2 hv => do_nil ⟨by show 1 ≤ sizeLine; decide, fun a na => q _ _ (e2.trans (Ex.new na)) ⟨[v], ⟨a, rfl, st_of upd_same⟩, fun x hx => by
  rw [List.mem_singleton.mp hx]
  exact hv.ex (Ex.new na), Nat.le_refl _⟩⟩))
theorem ep_toW {a : Addr} {us : List V} {i : Nat} (h : Ev ta σ H (.ref a)) (s : SqT K H a us) (all : ∀ x ∈ us, ElS K sg x H) (hb : Ev tb σ H (vi i)) (hk : i ≤ us.length) : EvP (tSl (rSlA K) ta tNoPart (tPart tb)) σ H (Row K sg i) := (ep_cutTo h s hb hk).imp fun v H' e hv => ⟨_, hv, fun x hx => (all x (List.mem_of_mem_take hx)).ex e, by rw [List.length_take]; omega⟩
theorem ep_fromW {a : Addr} {us : List V} {i : Nat} (h : Ev ta σ H (.ref a)) (s : SqT K H a us) (all : ∀ x ∈ us, ElS K sg x H) (hb : Ev tb σ H (vi i)) (m : Nat) (hm : us.length - i ≤ m) : EvP (tSl (rSlA K) ta (tPart tb) tNoPart) σ H (Row K sg m) := fun H1 e1 Q q =>
  h H1 e1 _ fun H2 e2 => hb H2 (e1.trans e2) _ fun H3 e3 => by
    have s3 := ex_t ((e1.trans e2).trans e3) s
    have al3 := fun x hx => (all x hx).ex ((e1.trans e2).trans e3)
    have si : HT.sIx us.length 0 (some (i : Int)) = min i us.length := HT.sIx_nat _ _ i
    refine ⟨(i : Int), rfl, a, us, rfl, s3, fun z => ?_, fun _ p np => ?_⟩
    · have z1 : HT.sIx us.length 0 (some (i : Int)) = 0 := z.1
      rw [si] at z1
      exact q _ H3 (e2.trans e3) ⟨us, ⟨a, rfl, s3⟩, al3, by omega⟩
    · refine q _ _ ((e2.trans e3).trans (Ex.new np)) ⟨cutV us (some (i : Int)) none, ⟨p, rfl, st_of upd_same⟩, fun x hx => ?_, ?_⟩
      · exact (al3 x (List.mem_of_mem_drop (List.mem_of_mem_take hx))).ex (Ex.new np)
      · show ((us.drop _).take _).length ≤ _
        have := List.length_take_le' (HT.sIx us.length us.length none - HT.sIx us.length 0 (some (i : Int))) (us.drop (HT.sIx us.length 0 (some (i : Int))))
        rw [List.length_drop, si] at this
        rw [si]
        omega
theorem ep_midW {a : Addr} {us : List V} {i k : Nat} (h : Ev te σ H (.ref a)) (s : SqT K H a us) (all : ∀ x ∈ us, ElS K sg x H) (hl : Ev ta σ H (vi i)) (hb : Ev tb σ H (vi k)) (m : Nat) (hm : i ≤ k ∧ k - i ≤ m) : EvP (tSl (rSlA K) te (tPart ta) (tPart tb)) σ H (Row K sg m) := (ep_cutM2 h s hl hb).imp fun v H' e ⟨ys, a, b, l⟩ => ⟨ys, a, fun x hx => (all x (b x hx)).ex e, Nat.le_trans (l hm.1) hm.2⟩
theorem ep_revW (h : EvP te σ H (Row K sg n)) : EvP (tRevT K te) σ H (Row K sg n) := fun H1 e1 Q q => h H1 e1 _ fun v H2 e2 hv => by
  obtain ⟨ys, ⟨a, rfl, s⟩, m, l⟩ := hv
  exact ⟨a, ys, rfl, s, fun p o np od os => q _ _ (e2.trans (Ex.new np)) ⟨ys.reverse, ⟨p, rfl, .inl (.inr ⟨o, upd_same⟩)⟩, fun x hx => (m x (List.mem_reverse.mp hx)).ex (Ex.new np), by rw [List.length_reverse]; exact l⟩⟩
/-- a row with one of its parts put anew, out of the purse -/
theorem do_bent {t2 : Nat} {Q : VK} (pu : Pur H p c t) (hA : EvP ta σ H (Row K sg n)) (mid : ∀ H1, Ex H H1 → ∀ Q : VK, (∀ v H2, Off H1 H2 p c → Pur H2 p c t2 → ElS K sg v H2 → Q v H2) → te σ H1 Q) (hC : ∀ H2, Off H H2 p c → EvP tc σ H2 (Row K sg m)) (l : n + 1 + m ≤ 100) (q : ∀ v H', Off H H' p c → Pur H' p c t2 → Row K sg (n + 1 + m) v H' → Q v H') : tOp (rCatA K) (tOp (rCatA K) ta (tTup (tCons te tNil))) tc σ H Q :=
  do_op (do_op (hA H (Ex.refl H) _ fun v1 H1 e1 h1 => do_tup (do_cons (mid H1 e1 _ fun v2 H2 o2 pu2 h2 => do_nil ⟨by show 1 ≤ sizeLine; decide, fun r nr => by
    have e3 : Ex H2 (upd H2 r (.tup [v2])) := Ex.new nr
    have o03 : Off H (upd H2 r (.tup [v2])) p c := ((Off.of_ex e1).trans o2).trans (.of_ex e3)
    have h1b : Row K sg n v1 (upd H2 r (.tup [v2])) := (h1.off (pu.ex e1) o2).ex e3
    have h2b : Row K sg 1 (.ref r) (upd H2 r (.tup [v2])) := ⟨[v2], ⟨r, rfl, st_of upd_same⟩, fun x hx => by
      rw [List.mem_singleton.mp hx]
      exact h2.ex e3, Nat.le_refl _⟩
    have pu3 := pu2.ex e3
    generalize upd H2 r (.tup [v2]) = H3 at *
    exact row_cat h1b h2b (by omega) fun v4 H4 e4 h4 => hC H4 (o03.trans (.of_ex e4)) H4 (Ex.refl _) _ fun v5 H5 e5 h5 => row_cat (h4.ex e5) h5 l fun v6 H6 e6 h6 => q v6 H6 (o03.trans (.of_ex ((e4.trans e5).trans e6))) (pu3.ex ((e4.trans e5).trans e6)) h6⟩))))
/-- a part with 0 behind it -/
theorem els_more (so : SigOk sg) {y : Tm} {x : V} (ha : Ev ta σ H x) (tv : TmV K H y x) (ok : y.ok sg) (s : y.sz ≤ 7) : EvP (tOp (rCatA K) ta (tTup (tCons (tC (.int 0)) tNil))) σ H (ElS K sg) := by
  have g7 := gb_sml so tv ok s
  have g0 : Gb 17 10 (.int 0) := (gb_dig (i := 0) (by decide)).mono (by decide) (Nat.le_refl _)
  have one : EvP (tTup (tCons (tC (.int 0)) tNil)) σ H (fun v H' => TupV K H' v [.int 0]) := fun H1 e Q q => eu_tup (vs := [.int 0]) (ea_cons ev_c ea_nil) (by show 1 ≤ 100000; decide) H1 e _ fun a H2 _ e2 hp => q _ H2 e2 ⟨a, rfl, st_of hp⟩
  cases y with
  | var z =>
    rw [TmV] at tv
    obtain ⟨b, rfl, sb⟩ := tv
    rw [Tm.data] at g7
    refine (ep_cat (xs := [.str "var", .str z]) (ys := [.int 0]) (ep_ev ha fun H' e => ⟨b, rfl, ex_t e sb⟩) one (by show 3 ≤ 100000; decide)).imp fun v H' e hv => ?_
    obtain ⟨r, rfl, sr⟩ := hv
    refine ⟨.odd (.tuple [.str "var", .str z, .int 0]), by rw [BtV]; exact ⟨.fl (.tup sr (.cons (.str _) (.cons (.str _) (.cons (.int 0) .nil)))) rfl, .three sr (by decide)⟩, by rw [Bt.ok]; trivial, by rw [Bt.sz]; decide, ?_⟩
    rw [Bt.data]
    exact (gb_tup (gba_app (gb_inv g7) (gba_one g0))).mono (by decide) (by decide)
  | deed f ts =>
    rw [TmV] at tv
    obtain ⟨b, b2, us, rfl, sb, sb2, tms⟩ := tv
    rw [Tm.data] at g7
    refine (ep_cat (xs := [.str "deed", .str f, .ref b2]) (ys := [.int 0]) (ep_ev ha fun H' e => ⟨b, rfl, ex_t e sb⟩) one (by show 4 ≤ 100000; decide)).imp fun v H' e hv => ?_
    obtain ⟨r, rfl, sr⟩ := hv
    refine ⟨.odd (.tuple [.str "deed", .str f, .tuple (datas ts), .int 0]), by rw [BtV]; exact ⟨.fl (.tup sr (.cons (.str _) (.cons (.str _) (.cons (.tup (ex_t e sb2) (dps_ex e tms.dp)) (.cons (.int 0) .nil))))) (by simp [noL, noLs, noLs_tm ts]), .len sr (by show 4 ≠ 2; decide) (by show 4 ≠ 3; decide)⟩, by rw [Bt.ok]; trivial, by rw [Bt.sz]; decide, ?_⟩
    rw [Bt.data]
    exact (gb_tup (gba_app (gb_inv g7) (gba_one g0))).mono (by decide) (by decide)
/-- ("deed", word, (("var", "u"),) * places) -/
theorem els_own (so : SigOk sg) {tn tk : TE} {f : Str} {j : Nat} (hn : Ev tn σ H (.str f)) (hk : ∀ H1, Ex H H1 → Ev tk σ H1 (vi j)) (g : Gd 3 22 (.str f)) (j2 : j ≤ 2) : EvP (tTup (tCons (tC (.str "deed")) (tCons tn (tCons (tOp (rRepTA K) (tTup (tCons (tTup (tCons (tC (.str "var")) (tCons (tC (.str "u")) tNil))) tNil)) tk) tNil)))) σ H (ElS K sg) := by
  have h3 : EvP (tOp (rRepTA K) (tTup (tCons (tTup (tCons (tC (.str "var")) (tCons (tC (.str "u")) tNil))) tNil)) tk) σ H (fun z H' => ∃ lf, Lf K H' lf "u" ∧ RpT K H' z (List.replicate j (.ref lf))) := fun H1 e Q q => by
    show tTup (tCons (tC (.str "var")) (tCons (tC (.str "u")) tNil)) σ H1 (fun x H2 => tOp (rRepTA K) (tTup (tCons (tC x) tNil)) tk σ H2 Q)
    exact eu_tup (vs := [.str "var", .str "u"]) (ea_cons ev_c (ea_cons ev_c ea_nil)) (by show 2 ≤ 100000; decide) H1 e _ fun lf H2 _ e2 hlf => ep_repT (K := K) (ta := tC (.ref lf)) (k := (j : Int)) (j := j) ev_c (fun H3 e3 => hk H3 ((e.trans e2).trans e3)) (by omega) (by omega) (by omega) H2 (Ex.refl _) Q fun v H3 e3 hr => q v H3 (e2.trans e3) ⟨lf, Lf.ex e3 ⟨hlf, by decide⟩, hr⟩
  refine (ep_t3 (K := K) (P2 := fun v _ => v = .str f) ev_c (ep_ev hn fun _ _ => rfl) h3 (fun _ _ _ _ h => h) (fun _ _ _ e ⟨lf, a, b⟩ => ⟨lf, a.ex e, b.ex e⟩)).imp fun v H' e hv => ?_
  obtain ⟨a, y, z, rfl, s, rfl, lf, hlf, r⟩ := hv
  exact els_th so (th_many s r hlf g (by omega))
end
end K11
end
section
namespace K11
open PySem PySem.Spec PyProof.Rows L2 Evl RZ Dw M20
section
variable {P : Program} {w : World} {K : PySem.W.Frag} {mg : Str → Option Value} {base : Heap} {σ : L2.St} {H H' Hb : Hp} {p c : Addr} {n m k W t : Nat} {v : V} {d : PyData} {ta tb te tc : TE} {sg sg2 : List (Str × Nat)}
/-- a reading as the law makes it: a term for each deed -/
def OwnV (K : PySem.W.Frag) (sg sg2 : List (Str × Nat)) (v : V) (H : Hp) : Prop := ∃ a ts us, v = .ref a ∧ SqT K H a us ∧ TmsV K H ts us ∧ (∀ t ∈ ts, t.ok sg2 ∧ t.sz ≤ 7) ∧ ts.length = sg.length
theorem OwnV.ex (e : Ex H H') (h : OwnV K sg sg2 v H) : OwnV K sg sg2 v H' := let ⟨a, ts, us, q, s, tv, r⟩ := h; ⟨a, ts, us, q, ex_t e s, tv.et (Dw.Ex.et e), r⟩
theorem OwnV.off (pu : Pur H p c m) (o : Off H H' p c) (h : OwnV K sg sg2 v H) : OwnV K sg sg2 v H' := let ⟨a, ts, us, q, s, tv, r⟩ := h; ⟨a, ts, us, q, o.et pu _ _ s, tv.et (o.et pu), r⟩
theorem own_els (so2 : SigOk sg2) : ∀ {ts : List Tm} {us : List V}, TmsV K H ts us → (∀ t ∈ ts, t.ok sg2 ∧ t.sz ≤ 7) → ∀ x ∈ us, ElS K sg2 x H
  | [], us, tv, _, x, hx => by
    rw [TmsV] at tv
    rw [tv] at hx
    cases hx
  | y :: ts, us, tv, h, x, hx => by
    rw [TmsV] at tv
    obtain ⟨u, r, rfl, a, b⟩ := tv
    rcases List.mem_cons.mp hx with z | z
    · rw [z]
      exact els_tm so2 a (h y (List.mem_cons_self ..)).1 (h y (List.mem_cons_self ..)).2
    · exact own_els so2 b (fun t ht => h t (List.mem_cons_of_mem _ ht)) x z
theorem OwnV.thg (so2 : SigOk sg2) (so : SigOk sg) (h : OwnV K sg sg2 v H) : Thg K sg2 v H := by
  obtain ⟨a, ts, us, rfl, s, tv, ok, l⟩ := h
  have l2 := tv.len
  have l4 := so.l4
  exact thg_row ⟨a, rfl, s⟩ (own_els so2 tv ok) (by omega)
def sp_bent (K : PySem.W.Frag) : Sp := fun vs H Q _ => ∃ (p c : Addr) (t : Nat) (own sv : V) (sg sg2 : List (Str × Nat)), vs = [.ref p, own, sv] ∧ Pur H p c t ∧ t ≤ 75000 ∧ OwnV K sg sg2 own H ∧ FSig K H sv sg ∧ SigOk sg ∧ SigOk sg2 ∧
  ∀ v t' H', Off H H' p c → Pur H' p c t' → t' ≤ t + 3 → Thg K sg2 v H' → Q v H'
theorem c_bent (T : Txt mg) (D : Df K mg "_law_bent" s__law_bent ["_law_pile_here", "_law_own", "_law_sig"]) (c_take : Cl P w K mg base 2 "_law_take" sp_take) (c_strange : Cl P w K mg base 3 "_law_strange" (sp_strange K)) : Cl P w K mg base 4 "_law_bent" (sp_bent K) := by
  refine cl_of (k := 3) D sc__law_bent (fun vs H Q E h => ?_) (fun f cdv A outer s H vs Q E hr h => ?_)
  · obtain ⟨p, c, t, own, sv, sg, sg2, rfl, _⟩ := h
    rfl
  · obtain ⟨p, c, t, own, sv, sg, sg2, rfl, pu, big, hO, hF, so, so2, q⟩ := h
    refine ⟨_, (pss_cons (ps_set (i := 3) sc__law_bent.nd rfl (.inl rfl) (pe_cl c_take hr (by first | decide | omega) (by rfl) (pa_cons (pv 0) (pa_cons pe_int pa_nil))))
      (pss_cons (ps_set (i := 4) sc__law_bent.nd rfl (.inl rfl) (pe_cl c_take hr (by first | decide | omega) (by rfl) (pa_cons (pv 0) (pa_cons (pe_callB call_len_seq (by rfl) T.z_len PySem.boot_len (pa_cons (pv 1) pa_nil)) pa_nil))))
      (pss_cons (ps_set (i := 5) sc__law_bent.nd rfl (.inl rfl) (pe_ix ix_tup (pe_ix ix_tup (pv 2) (pv 4) (fun _ _ => rfl)) pe_int (fun _ _ => rfl)))
      (pss_cons (ps_if (pt_cmpR op_eq (pv 3) pe_int (nomark _))
        (pss_one (ps_ret (pe_callTy call_list_of (by rfl) T.z_list (by decide +kernel) (pa_cons (pv 1) pa_nil))))
        pss_nil)
      (pss_cons (ps_if (pt_cmpR op_eq (pv 3) pe_int (nomark _))
        (pss_one (ps_ret (pe_op op_catA (pe_slice sl_tupA (pv 1) po_none (po_some (pv 4))) (pe_slice sl_tupA (pv 1) (po_some (pe_op op_add (pv 4) pe_int)) po_none))))
        pss_nil)
      (pss_cons (ps_if (pt_cmpR op_eq (pv 3) pe_int (nomark _))
        (pss_one (ps_ret (pe_op op_catA (pv 1) (pe_slice sl_tupA (pv 1) (po_some (pv 4)) (po_some (pe_op op_add (pv 4) pe_int))))))
        pss_nil)
      (pss_cons (ps_if (pt_cmpR op_eq (pv 3) pe_int (nomark _))
        (pss_one (ps_ret (pe_op op_catA (pe_op op_catA (pe_slice sl_tupA (pv 1) po_none (po_some (pv 4))) (pe_revT (pe_slice sl_tupA (pv 1) (po_some (pv 4)) (po_some (pe_op op_add (pv 4) pe_int))))) (pe_slice sl_tupA (pv 1) (po_some (pe_op op_add (pv 4) pe_int)) po_none))))
        pss_nil)
      (pss_cons (ps_if (pt_cmpR op_eq (pv 3) pe_int (nomark _))
        (pss_one (ps_ret (pe_op op_catA (pe_op op_catA (pe_slice sl_tupA (pv 1) po_none (po_some (pv 4))) (pe_tup (pa_cons (pe_tup (pa_cons pe_str (pa_cons (pe_ix ix_str pe_str (pe_cl c_take hr (by first | decide | omega) (by rfl) (pa_cons (pv 0) (pa_cons pe_int pa_nil))) (fun _ _ => rfl)) pa_nil))) pa_nil))) (pe_slice sl_tupA (pv 1) (po_some (pe_op op_add (pv 4) pe_int)) po_none))))
        pss_nil)
      (pss_cons (ps_if (pt_cmpR op_eq (pv 3) pe_int (nomark _))
        (pss_one (ps_ret (pe_op op_catA (pe_op op_catA (pe_slice sl_tupA (pv 1) po_none (po_some (pv 4))) (pe_tup (pa_cons (pe_cl c_strange hr (by first | decide | omega) (by rfl) (pa_cons (pv 0) (pa_cons (pv 5) pa_nil))) pa_nil))) (pe_slice sl_tupA (pv 1) (po_some (pe_op op_add (pv 4) pe_int)) po_none))))
        pss_nil)
      (pss_cons (ps_if (pt_cmpR op_eq (pv 3) pe_int (nomark _))
        (pss_one (ps_ret (pe_op op_catA (pe_op op_catA (pe_slice sl_tupA (pv 1) po_none (po_some (pv 4))) (pe_tup (pa_cons (pe_op op_catA (pe_ix ix_tup (pv 1) (pv 4) (fun _ _ => rfl)) (pe_tup (pa_cons pe_int pa_nil))) pa_nil))) (pe_slice sl_tupA (pv 1) (po_some (pe_op op_add (pv 4) pe_int)) po_none))))
        pss_nil)
      (pss_cons (ps_if (pt_cmpR op_eq (pv 3) pe_int (nomark _))
        (pss_one (ps_ret (pe_op op_catA (pe_op op_catA (pe_slice sl_tupA (pv 1) po_none (po_some (pv 4))) (pe_tup (pa_cons (pe_tup (pa_cons pe_str (pa_cons (pv 5) (pa_cons (pe_op op_repTA (pe_tup (pa_cons (pe_tup (pa_cons pe_str (pa_cons pe_str pa_nil))) pa_nil)) (pe_ix ix_tup (pe_ix ix_tup (pv 2) (pv 4) (fun _ _ => rfl)) pe_int (fun _ _ => rfl))) pa_nil)))) pa_nil))) (pe_slice sl_tupA (pv 1) (po_some (pe_op op_add (pv 4) pe_int)) po_none))))
        pss_nil)
      (pss_cons (ps_if (pt_cmpR op_eq (pv 3) pe_int (nomark _))
        (pss_one (ps_ret (pe_cl c_strange hr (by first | decide | omega) (by rfl) (pa_cons (pv 0) (pa_cons (pv 5) pa_nil)))))
        pss_nil)
      (pss_one (ps_ret (pv 1))))))))))))))), ?_⟩
    obtain ⟨a0, ts0, us0, rfl, s0, tv0, ok0, l0⟩ := id hO
    have lu0 := tv0.len
    have l1 := so.l1
    have l4 := so.l4
    refine do_set (do_take (n := 10) (ev_var rfl) ev_c pu (by omega) (by decide) (by decide) fun kd H1 hkd o1 pu1 => ?_)
    show tSeq _ _ _ [some (.ref p), some (.ref a0), some sv, some (vi kd), none, none] H1
    refine do_set (do_take (n := us0.length) (ev_var rfl) (ev_lenT (ev_var rfl) (o1.et pu _ _ s0)) pu1 (by omega) (by omega) (by omega) fun i H2 hi o2 pu2 => ?_)
    show tSeq _ _ _ [some (.ref p), some (.ref a0), some sv, some (vi kd), some (vi i), none] H2
    have o02 := o1.trans o2
    have s2 := o02.et pu (K := K) _ _ s0
    have tv2 := tv0.et (o02.et pu)
    have all := own_els so2 tv2 ok0
    obtain ⟨sa, o9, ps, rfl, hsa, sod, prs⟩ := hF.off pu o02
    have sqS : SqT K H2 sa (ps.map V.ref) := .inl (.inr ⟨o9, hsa⟩)
    have lps := paired_len prs
    have ip : i < ps.length := by omega
    obtain ⟨dd, ed, hdd⟩ := paired_at prs (List.getElem?_eq_getElem ip)
    obtain ⟨nm, pl⟩ := dd
    have md : (nm, pl) ∈ sg := List.mem_iff_getElem?.mpr ⟨i, ed⟩
    have pl2 : pl ≤ 2 := so.pl _ md
    have nmN : Name nm := so.nm _ md
    have gps : (ps.map V.ref)[i]? = some (.ref ps[i]) := by rw [List.getElem?_map, List.getElem?_eq_getElem ip]; rfl
    refine q_asg (ev_op (ev_op (ev_var rfl) (ev_var rfl) (rv_ixT (K := K) sqS (atI_nat gps))) ev_c (rv_ixT (K := K) hdd (atI_vi (k := 0) rfl))) fun H3 e3 => ?_
    show tSeq _ _ _ [some (.ref p), some (.ref a0), some (.ref sa), some (vi kd), some (vi i), some (.str nm)] H3
    have o03 := o02.trans (.of_ex e3)
    have pu3 := pu2.ex e3
    have s3 := ex_t e3 s2
    have tv3 := tv2.et (Dw.Ex.et (K := K) e3)
    have all3 := own_els so2 tv3 ok0
    have sq3 := ex_t e3 sqS
    have hd3 := ex_t e3 hdd
    have fin : ∀ {te : TE} {H4 : Hp}, Ex H3 H4 → EvP te [some (.ref p), some (.ref a0), some (.ref sa), some (vi kd), some (vi i), some (.str nm)] H4 (Thg K sg2) → tRet te { nx := fun _ H' => Q .non H', rt := Q } [some (.ref p), some (.ref a0), some (.ref sa), some (vi kd), some (vi i), some (.str nm)] H4 := fun {te H4} e4 h => do_ret (h H4 (Ex.refl _) _ fun v H5 e5 hv => q v _ H5 (o03.trans (.of_ex (e4.trans e5))) (pu3.ex (e4.trans e5)) (by omega) hv)
    have eqk : ∀ {z : Nat} {H4 : Hp}, EvT (tTest (tOp rEq (tVar 3) (tC (.int (z : Int))))) [some (.ref p), some (.ref a0), some (.ref sa), some (vi kd), some (vi i), some (.str nm)] H4 (decide (kd = z)) := fun {z H4} => by
      by_cases e : kd = z
      · rw [decide_eq_true e]
        exact et_yesI (n := kd) (i := 3) rfl (by rw [e])
      · rw [decide_eq_false e]
        exact et_noI (n := kd) (i := 3) rfl (by omega)
    have vo : ∀ {H4 : Hp}, Ev (tVar 1) [some (.ref p), some (.ref a0), some (.ref sa), some (vi kd), some (vi i), some (.str nm)] H4 (.ref a0) := ev_var rfl
    have va : ∀ {H4 : Hp}, Ev (tVar 4) [some (.ref p), some (.ref a0), some (.ref sa), some (vi kd), some (vi i), some (.str nm)] H4 (vi i) := ev_var rfl
    have to : ∀ {H4 : Hp}, Off H3 H4 p c → EvP (tSl (rSlA K) (tVar 1) tNoPart (tPart (tVar 4))) [some (.ref p), some (.ref a0), some (.ref sa), some (vi kd), some (vi i), some (.str nm)] H4 (Row K sg2 i) := fun {H4} o4 => ep_toW vo (o4.et pu3 _ _ s3) (fun x hx => (all3 x hx).off pu3 o4) va (by omega)
    have from1 : ∀ {H4 : Hp}, Off H3 H4 p c → EvP (tSl (rSlA K) (tVar 1) (tPart (tOp (rI0 fun i j => .int (i + j)) (tVar 4) (tC (.int 1)))) tNoPart) [some (.ref p), some (.ref a0), some (.ref sa), some (vi kd), some (vi i), some (.str nm)] H4 (Row K sg2 (us0.length - (i + 1))) := fun {H4} o4 => ep_fromW vo (o4.et pu3 _ _ s3) (fun x hx => (all3 x hx).off pu3 o4) (ev_plus (z := 1) va) _ (Nat.le_refl _)
    refine q_when (eqk (z := 0)) (fun _ H4 e4 => fin e4 (fun H5 e5 Q5 q5 => do_cb (do_cons (do_ev vo fun H6 e6 => do_nil ⟨a0, us0, rfl, .inr (ex_t ((e4.trans e5).trans e6) s3), fun l nl => q5 _ _ (e6.trans (Ex.new nl)) (thg_list so2 (tv3.et (Dw.Ex.et (((e4.trans e5).trans e6).trans (Ex.new nl)))) ok0 upd_same (by omega))⟩)))) (fun _ H4 e4 => ?_)
    refine q_when (eqk (z := 1)) (fun _ H5 e5 => fin (e4.trans e5) ((ep_catW (to (.of_ex (e4.trans e5))) (from1 (.of_ex (e4.trans e5))) (by omega)).imp fun v H' e h => h.thg (by omega))) (fun _ H5 e5 => ?_)
    have e35 := e4.trans e5
    refine q_when (eqk (z := 2)) (fun _ H6 e6 => fin (e35.trans e6) ((ep_catW (n := us0.length) (m := 1) (ep_ev vo fun H' e' => ⟨us0, ⟨a0, rfl, ex_t ((e35.trans e6).trans e') s3⟩, fun x hx => (all3 x hx).ex ((e35.trans e6).trans e'), Nat.le_refl _⟩) (ep_midW (i := i) (k := i + 1) vo (ex_t (e35.trans e6) s3) (fun x hx => (all3 x hx).ex (e35.trans e6)) va (ev_plus (z := 1) va) 1 (by omega)) (by omega)).imp fun v H' e h => h.thg (by omega))) (fun _ H6 e6 => ?_)
    have e36 := e35.trans e6
    refine q_when (eqk (z := 3)) (fun _ H7 e7 => fin (e36.trans e7) ((ep_catW (n := i + 2) (m := us0.length - (i + 2)) (ep_catW (n := i) (m := 2) (to (.of_ex (e36.trans e7))) (ep_revW (ep_midW (i := i) (k := i + 2) vo (ex_t (e36.trans e7) s3) (fun x hx => (all3 x hx).ex (e36.trans e7)) va (ev_plus (z := 2) va) 2 (by omega))) (by omega)) (ep_fromW vo (ex_t (e36.trans e7) s3) (fun x hx => (all3 x hx).ex (e36.trans e7)) (ev_plus (z := 2) va) _ (Nat.le_refl _)) (by omega)).imp fun v H' e h => h.thg (by omega))) (fun _ H7 e7 => ?_)
    have e37 := e36.trans e7
    refine q_when (eqk (z := 4)) (fun _ H8 e8 => ?_) (fun _ H8 e8 => ?_)
    · have e38 := e37.trans e8
      refine do_ret (do_bent (n := i) (m := us0.length - (i + 1)) (t2 := t + 3) (pu3.ex e38) (to (.of_ex e38)) (fun I1 f1 Q5 q5 => ?_) (fun I2 o2 => from1 ((Off.of_ex e38).trans o2)) (by omega) fun v H9 o9 pu9 h9 => q v _ H9 (o03.trans ((Off.of_ex e38).trans o9)) pu9 (Nat.le_refl _) (h9.thg (by omega)))
      refine do_tup (do_cons (do_ev ev_c fun I2 f2 => do_cons (do_op (do_ev ev_c fun I3 f3 => do_take (n := 6) (ev_var rfl) ev_c (pu3.ex (e38.trans ((f1.trans f2).trans f3))) (by omega) (by decide) (by decide) fun kk I4 hkk o4 pu4 => ?_))))
      have lk : kk < ("uvwxyz" : Str).cps.toList.length := hkk
      refine ⟨"uvwxyz", (kk : Int), ("uvwxyz" : Str).cps.toList[kk], rfl, rfl, sz_of (by decide), atI_nat (List.getElem?_eq_getElem lk), do_nil ⟨by show 2 ≤ sizeLine; decide, fun r nr => ?_⟩⟩
      have xv : (⟨#[("uvwxyz" : Str).cps.toList[kk]]⟩ : Str) ∈ vars := six_mem (k := kk) (by rw [← Array.getElem?_toList, List.getElem?_eq_getElem lk])
      generalize (⟨#[("uvwxyz" : Str).cps.toList[kk]]⟩ : Str) = x at xv ⊢
      have th : ThB K (upd I4 r (.tup [.str "var", .str x])) sg2 (.ref r) := Lf.th (x := x) ⟨upd_same, xv⟩
      exact q5 _ _ (((Off.of_ex (f2.trans f3)).trans o4).trans (.of_ex (Ex.new nr))) (pu4.ex (Ex.new nr)) (els_th so2 th)
    have e38 := e37.trans e8
    refine q_when (eqk (z := 5)) (fun _ H9 e9 => ?_) (fun _ H9 e9 => ?_)
    · have e39 := e38.trans e9
      refine do_ret (do_bent (n := i) (m := us0.length - (i + 1)) (t2 := t + 3) (pu3.ex e39) (to (.of_ex e39)) (fun I1 f1 Q5 q5 => ?_) (fun I2 o2 => from1 ((Off.of_ex e39).trans o2)) (by omega) fun v H9 o9 pu9 h9 => q v _ H9 (o03.trans ((Off.of_ex e39).trans o9)) pu9 (Nat.le_refl _) (h9.thg (by omega)))
      exact (ea_cons (ev_var rfl) (ea_cons (ev_var rfl) ea_nil)) I1 (Ex.refl _) _ fun I2 f2 => ⟨p, c, t + 1 + 1, nm, sg2, rfl, pu3.ex (e39.trans (f1.trans f2)), by omega, nmN, so2, fun v I3 o3 pu3 st => q5 v I3 ((Off.of_ex f2).trans o3) pu3 (els_th so2 st.1)⟩
    have e39 := e38.trans e9
    have iu : i < us0.length := hi
    obtain ⟨y, hy, tvy⟩ := tv3.get (List.getElem?_eq_getElem iu)
    have oky := ok0 y (List.mem_of_getElem? hy)
    refine q_when (eqk (z := 6)) (fun _ I e => fin (e39.trans e) ((ep_catW (n := i + 1) (m := us0.length - (i + 1)) (ep_catW (n := i) (m := 1) (to (.of_ex (e39.trans e))) (ep_oneW (els_more so2 (ev_op vo va (rv_ixT (K := K) (ex_t (e39.trans e) s3) (atI_nat (List.getElem?_eq_getElem iu)))) (TmV.ex (e39.trans e) tvy) oky.1 oky.2)) (by omega)) (from1 (.of_ex (e39.trans e))) (by omega)).imp fun v H' e h => h.thg (by omega))) (fun _ H10 e10 => ?_)
    have e310 := e39.trans e10
    refine q_when (eqk (z := 7)) (fun _ I e => fin (e310.trans e) ((ep_catW (n := i + 1) (m := us0.length - (i + 1)) (ep_catW (n := i) (m := 1) (to (.of_ex (e310.trans e))) (ep_oneW (els_own so2 (j := pl) (ev_var rfl) (fun J f => ev_op (ev_op (ev_var rfl) va (rv_ixT (K := K) (ex_t ((e310.trans e).trans f) sq3) (atI_nat gps))) ev_c (rv_ixT (K := K) (ex_t ((e310.trans e).trans f) hd3) (atI_vi (k := 1) rfl))) (name_gd nmN).1 pl2)) (by omega)) (from1 (.of_ex (e310.trans e))) (by omega)).imp fun v H' e h => h.thg (by omega))) (fun _ H11 e11 => ?_)
    have e311 := e310.trans e11
    refine q_when (eqk (z := 8)) (fun _ I e => ?_) (fun _ I e => ?_)
    · exact do_ret ((ea_cons (ev_var rfl) (ea_cons (ev_var rfl) ea_nil)) I (Ex.refl _) _ fun I2 f2 => ⟨p, c, t + 1 + 1, nm, sg2, rfl, pu3.ex ((e311.trans e).trans f2), by omega, nmN, so2, fun v I3 o3 pu3 st => q v _ I3 (o03.trans ((Off.of_ex ((e311.trans e).trans f2)).trans o3)) pu3 (Nat.le_refl _) st.2⟩)
    · exact fin (e311.trans e) (ep_ev vo fun I' e' => OwnV.thg so2 so ((hO.off pu o03).ex ((e311.trans e).trans e')))
end
end K11
end
section
namespace K11
open PySem PySem.Spec PyProof.Rows L2 Evl RZ Dw M20
section
variable {P : Program} {w : World} {K : PySem.W.Frag} {mg : Str → Option Value} {base : Heap} {σ : L2.St} {H H' Hb : Hp} {p c : Addr} {n m k W t : Nat} {v : V} {d : PyData} {ta tb te tc : TE} {sg sg2 : List (Str × Nat)} {S0 : Addr}
theorem c_need_signatureX (T : Txt mg) (D : Df K mg "need_signature" s_need_signature ["signature"]) (es : ExcT K mg "NoSignature" S0) (c_sig_any : Cl P w K mg base 4 "signature_wrong" (sp_sig_any K)) : ClX P w K mg base 5 "need_signature" (spE S0 (SPreX K 0)) := by
  refine clx_of (k := 4) D sc_need_signature (fun vs H Q E h => ?_) (fun f cdv A outer s H vs Q E hr h => ?_)
  · obtain ⟨d, ⟨⟨v, r, rfl, l, _⟩, _⟩, _⟩ := h
    rw [List.eq_nil_of_length_eq_zero l]
    rfl
  · obtain ⟨⟨⟨p, c⟩, d⟩, ⟨⟨v, r, rfl, l, hv⟩, wd, bad⟩, q⟩ := h
    replace hv : Dz K p c H v d := hv
    replace wd : Gb 50 100000 d := wd
    replace bad : sigW d ≠ .none := bad
    rw [List.eq_nil_of_length_eq_zero l]
    have c_signature_wrong := c_sig_any
    refine ⟨_, (pss_one (ps_if (pt_cmpR op_notN (pe_cl c_signature_wrong hr (by first | decide | omega) (by rfl) (pa_cons (pv 0) pa_nil)) pe_non (nomark _))
        (pss_one (ps_raise rfl (takes_of rfl rfl rfl rfl) (pmk_own PySem.F.excBase_ValueError es.q es.g es.k (raises_own es.c.hs es.t) (by rfl))))
        pss_nil)), ?_⟩
    exact s_when (b := true) (et_isNP ((ep_call ((p, c), d) (ea_cons (ev_var rfl) ea_nil) (fun H1 e1 => ⟨⟨_, rfl, hv.ex e1⟩, wd⟩)).imp fun r H1 _ hr1 => sig_ref hr1 bad)) (fun _ H1 e1 => q H1 e1) (fun hb => by cases hb)
abbrev lawN : List Str := ["_law_script", "_law_k", "_law_pile_here", "_law_first", "_law_second", "_law_own", "_law_thing", "_law_kept", "_law_odd", "_law_which"]
theorem ev_strQ {X : Cx} {te : TE} {d : PyData} (hg : X.A.guards = some []) (hK : X.K = K) (h : EvP te σ H fun v H' => Dp K H' v d) (g : Gb k W d) (hk : k ≤ 180) (hW : W ≤ 100000) : Ev (tCB (rStrW X) (tCons te tNil)) σ H (.str (strD d)) := by
  subst hK
  intro H1 e1 Q q
  exact do_cb (do_cons (h H1 e1 _ fun v H2 e2 hv => do_nil ⟨v, d, rfl, hv, hg, g.sho, PyData.hasDict_of_canLay _ g.lay, Nat.le_trans g.dep hk, g.len hW, q H2 e2⟩))
theorem lay_rdW (sg : List (Str × Nat)) (th : Rt) : Lay (rdW sg th) := by
  have dk : ∀ k : Nat, Lay (dK2 "deed" k) := fun k => ⟨by
    rw [dK2, PyData.canLay0, PyData.canLayAll0, PyData.canLayAll0, PyData.canLayAll0, PyData.canLay0, PyData.canLay0]
    decide +kernel, by
    rw [dK2, PyData.depth, PyData.depthAll, PyData.depthAll, PyData.depthAll, PyData.depth, PyData.depth]
    decide⟩
  have od : Lay rdOdd := by
    constructor <;> decide +kernel
  unfold rdW
  split
  · exact od
  · split
    · split
      · constructor <;> decide +kernel
      · exact dk _
    · exact od
theorem sql_through {a : Addr} {xs : List V} {H3 H4 : Hp} (s : SqL K H3 a xs) (np : H3 p = none) (e : Ex H3 H4) (o : Off H4 H' p p) : SqL K H' a xs := s.imp (fun r => r.imp (fun z => by
  have ne : a ≠ p := fun q => by
    rw [q, np] at z
    cases z
  exact o _ _ ne ne (e _ _ z)) (fun ⟨ob, z⟩ => ⟨ob, by
  have ne : a ≠ p := fun q => by
    rw [q, np] at z
    cases z
  exact o _ _ ne ne (e _ _ z)⟩)) id
/-- a loop over a new list whose items are made with effects -/
theorem q_forX {te : TE} {g : TG} {tu tz : TS} {D : Ends} (h : te σ H fun v H1 => ∃ a, v = .ref a ∧ (∃ xs, SqL K H1 a xs) ∧ ∃ W : Nat → Nat → L2.St → Hp → Prop, (∃ m, W 0 m σ H1) ∧ ∀ i m σ' H', W i m σ' H' →
  ((Itl K a).stop i H' ∧ tz D σ' H') ∨ ((Itl K a).go i H' ∧ ∃ N : L2.St → Hp → Prop, (∀ σ2 H2, N σ2 H2 → ∃ m', m' < m ∧ W (i + 1) m' σ2 H2) ∧ ∀ x H2, (Itl K a).yld i H' x H2 → g x σ' H2 fun σ2 H3 => tu { D with nx := N, ct := N, bk := tz D } σ2 H3)) : tSeq (tFor (iList K te) g tu) tz D σ H := h
theorem for_x {a : Addr} {xs : List V} {g : TG} {tu tz : TS} {D : Ends} (Pv : Nat → L2.St → Hp → Prop) (h0 : Pv 0 σ H) (hl : ∀ i σ' H', i ≤ xs.length → Pv i σ' H' → SqL K H' a xs)
    (hs : ∀ i x σ' H', xs[i]? = some x → Pv i σ' H' → g x σ' H' fun σ2 H2 => tu { D with nx := Pv (i + 1), ct := Pv (i + 1), bk := tz D } σ2 H2) (hd : ∀ σ' H', Pv xs.length σ' H' → tz D σ' H') :
    ∃ W : Nat → Nat → L2.St → Hp → Prop, (∃ m, W 0 m σ H) ∧ ∀ i m σ' H', W i m σ' H' →
  ((Itl K a).stop i H' ∧ tz D σ' H') ∨ ((Itl K a).go i H' ∧ ∃ N : L2.St → Hp → Prop, (∀ σ2 H2, N σ2 H2 → ∃ m', m' < m ∧ W (i + 1) m' σ2 H2) ∧ ∀ x H2, (Itl K a).yld i H' x H2 → g x σ' H2 fun σ2 H3 => tu { D with nx := N, ct := N, bk := tz D } σ2 H3) :=
  for_it (D := { D with nx := tz D }) walk_list Pv h0 hl (fun i x σ' H2 H3 hi p y => by
    obtain ⟨rfl, hx⟩ := y
    exact hs i x σ' _ hx p) hd
/-! seven things that are no signature -/
theorem gone_c {te : TE} {v : V} {d : PyData} (h : Ev te σ H v) (hd : ∀ H, Dz K p c H v d) (g : Gb 6 6000 d) (hs : sigW d ≠ .none) : EvP te σ H (GoneR K p c) := ep_ev h fun H' _ => ⟨d, hd H', g, hs⟩
theorem gone_l (pu : Pur H p c m) : EvP (tLst tNil) σ H (GoneR K p c) := fun H1 e Q q => el_lst (vs := []) ea_nil (by show 0 ≤ 100000; decide) H1 e _ fun l H2 nl e2 hl => by
  obtain ⟨lp, lc⟩ := (pu.ex e).fresh nl
  exact q _ H2 e2 ⟨.list [], .lst hl lp lc .nil, (gb_lst gba_nil).mono (by decide) (by decide), sig_lst _⟩
theorem sigs_odd : isNone (sigW (.tuple [.tuple [.str "A", .int 1]])) = false ∧ isNone (sigW (.tuple [.tuple [.str "u", .int 1]])) = false ∧ isNone (sigW (.tuple [.tuple [.str "a", .int 1], .tuple [.str "a", .int 2]])) = false := by decide +kernel
theorem gb_pr {z : Str} {i : Int} (h : (∀ c ∈ z.cps.toList, c < 0x110000) ∧ z.cps.size ≤ 22) (g : Gb 0 10 (.int i)) : Gb 1 50 (.tuple [.str z, .int i]) := (gb_tup (gba_cons (gb_str h) (gba_one (g.mono (Nat.le_refl _) (Nat.le_refl _))))).mono (Nat.le_refl _) (by decide)
theorem gone_two : EvP (tTup (tCons (tTup (tCons (tC (.str "a")) (tCons (tC (.int 1)) tNil))) (tCons (tTup (tCons (tC (.str "a")) (tCons (tC (.int 2)) tNil))) tNil))) σ H (GoneR K p c) := fun H1 e Q q => do_tup (do_cons (eu_tup (vs := [.str "a", .int 1]) (ea_cons ev_c (ea_cons ev_c ea_nil)) (by show 2 ≤ 100000; decide) H1 e _ fun b H2 nb e2 hb => do_cons (eu_tup (vs := [.str "a", .int 2]) (ea_cons ev_c (ea_cons ev_c ea_nil)) (by show 2 ≤ 100000; decide) H2 (e.trans e2) _ fun b2 H3 nb2 e3 hb2 => do_nil ⟨by show 2 ≤ sizeLine; decide, fun a na => by
  have e4 : Ex H3 (upd H3 a (.tup [.ref b, .ref b2])) := Ex.new na
  exact q _ _ ((e2.trans e3).trans e4) ⟨.tuple [.tuple [.str "a", .int 1], .tuple [.str "a", .int 2]], .tup (st_of upd_same) (.cons (.tup (ex_t e4 (ex_t e3 (st_of hb))) (.cons (.str _) (.cons (.int _) .nil))) (.cons (.tup (ex_t e4 (st_of hb2)) (.cons (.str _) (.cons (.int _) .nil))) .nil)), (gb_tup (gba_cons (gb_pr (by decide) (gb_dig (i := 1) (by decide))) (gba_one (gb_pr (by decide) (gb_dig (i := 2) (by decide)))))).mono (by decide) (by decide), isNone_f sigs_odd.2.2⟩⟩)))
theorem int_bd (i : Nat) (h : i ≤ 7) : (PyData.int (i : Int)).weight ≤ 100 ∧ (PyData.int (i : Int)).intsShort 40 = true ∧ (PyData.int (i : Int)).showable = true := by
  have g := gb_dig h
  exact ⟨Nat.le_trans g.wgt (by decide), g.its, g.sho⟩
/-- ahead of each turn -/
def Turn (K : PySem.W.Frag) (a : Addr) (ns : List Int) (i : Nat) (σ : L2.St) (H : Hp) : Prop := SqL K H a (ns.map V.int) ∧ ∃ y1 y2 y3 y4 y5 y6 y7 y8 y9 : Option V, σ = [some (.ref a), y1, y2, y3, y4, y5, y6, y7, y8, y9]
theorem law_ok (T : Txt mg) (c_pile : Cl P w K mg base 1 "_law_pile" (sp_pile K)) (c_take : Cl P w K mg base 2 "_law_take" sp_take) (c_signature : Cl P w K mg base 4 "_law_signature" (sp_sign K)) (c_lreading : Cl P w K mg base 7 "_law_reading" (sp_lreading K)) (c_bent : Cl P w K mg base 4 "_law_bent" (sp_bent K)) (c_reading_any : Cl P w K mg base 6 "reading_wrong" (sp_reading_any K)) (c_due : Cl P w K mg base 12 "_law_due" (sp_reading_any K)) (c_refused : Cl P w K mg base 13 "_law_refused" (sp_refused K)) (c_caughtS : Cl P w K mg base 9 "_law_caught" (sp_caughtS K))
    (room : Room 40 callerA) (s : Shared) (H : Hp) (fa : Addr) (cdv : Value) (a : Addr) (ns : List Int) (len : ns.length ≤ 63) (seq : SqL K H a (ns.map V.int)) :
    ∃ t, PSs (cxOf CX0 P w K mg base lawN "law" (defScope s_law) fa cdv callerA [] s H E0).nox (defBody s_law) t ∧ t { nx := fun _ _ => False, rt := fun v _ => v = .bl true } (L2.start lawN [.ref a]) H := by
  have hr : Room 39 (callerA.deeper (envOfC "law" (defScope s_law) s.heap.objs.size fa cdv)) := room.deeper _
  refine ⟨_, (pss_cons (ps_for PassesOwn.never (by rfl) (pi_range1 (by rfl) T.z_range (pa_cons pe_int pa_nil)) (pg_name (i := 1) sc_law.nd rfl (.inl rfl))
        (pss_cons (ps_set (i := 2) sc_law.nd rfl (.inl rfl) (pe_cl c_pile hr (by first | decide | omega) (by rfl) (pa_cons (pv 0) (pa_cons (pv 1) pa_nil))))
        (pss_cons (ps_par (i := 3) (j := 4) (by rfl) sc_law.nd rfl rfl (by decide) rfl rfl (pa_cons (pe_cl c_signature hr (by first | decide | omega) (by rfl) (pa_cons (pv 2) pa_nil)) (pa_cons (pe_cl c_signature hr (by first | decide | omega) (by rfl) (pa_cons (pv 2) pa_nil)) pa_nil)) (by rfl))
        (pss_cons (ps_set (i := 5) sc_law.nd rfl (.inl rfl) (pe_cl c_lreading hr (by first | decide | omega) (by rfl) (pa_cons (pv 2) (pa_cons (pv 3) (pa_cons (pv 4) pa_nil)))))
        (pss_cons (ps_for PassesOwn.never (by rfl) (pi_list (pe_lst (pa_cons (pv 5) (pa_cons (pe_cl c_bent hr (by first | decide | omega) (by rfl) (pa_cons (pv 2) (pa_cons (pv 5) (pa_cons (pv 3) pa_nil)))) (pa_cons (pe_cl c_bent hr (by first | decide | omega) (by rfl) (pa_cons (pv 2) (pa_cons (pv 5) (pa_cons (pv 3) pa_nil)))) pa_nil))))) (pg_name (i := 6) sc_law.nd rfl (.inl rfl))
          (pss_cons (ps_set (i := 7) sc_law.nd rfl (.inl rfl) (pe_callTy (call_strW hr) (by rfl) T.z_str (by decide +kernel) (pa_cons (pv 6) pa_nil)))
          (pss_cons (ps_if (PW.pt (pw_or (pt_cmpR (op_neL hr) (pe_cl c_reading_any hr (by first | decide | omega) (by rfl) (pa_cons (pv 3) (pa_cons (pv 4) (pa_cons (pv 6) pa_nil)))) (pe_cl c_due hr (by first | decide | omega) (by rfl) (pa_cons (pv 3) (pa_cons (pv 4) (pa_cons (pv 6) pa_nil)))) (nomark _)) (pw_or1 (pt_cmpR op_ne (pe_callTy (call_strW hr) (by rfl) T.z_str (by decide +kernel) (pa_cons (pv 6) pa_nil)) (pv 7) (nomark _)))))
            (pss_one (ps_ret pe_bl))
            pss_nil)
          (pss_one (ps_if (pt_not (pt_val (pe_cl c_refused hr (by first | decide | omega) (by rfl) (pa_cons (pv 3) (pa_cons (pv 4) (pa_cons (pv 6) pa_nil))))))
            (pss_one (ps_ret pe_bl))
            pss_nil)))))
        (pss_cons (ps_set (i := 8) sc_law.nd rfl (.inl rfl) (pe_ix ix_list (pe_lst (pa_cons (pe_tup pa_nil) (pa_cons (pe_lst pa_nil) (pa_cons pe_non (pa_cons (pe_tup (pa_cons (pe_tup (pa_cons pe_str (pa_cons pe_int pa_nil))) pa_nil)) (pa_cons (pe_tup (pa_cons (pe_tup (pa_cons pe_str (pa_cons pe_int pa_nil))) pa_nil)) (pa_cons (pe_tup (pa_cons (pe_tup (pa_cons pe_str (pa_cons pe_int pa_nil))) (pa_cons (pe_tup (pa_cons pe_str (pa_cons pe_int pa_nil))) pa_nil))) (pa_cons (pe_tup (pa_cons (pe_tup (pa_cons pe_str (pa_cons pe_int pa_nil))) pa_nil)) pa_nil)))))))) (pe_cl c_take hr (by first | decide | omega) (by rfl) (pa_cons (pv 2) (pa_cons pe_int pa_nil))) (fun _ _ => rfl)))
        (pss_one (ps_for PassesOwn.never (by rfl) (pi_range1 (by rfl) T.z_range (pa_cons pe_int pa_nil)) (pg_name (i := 9) sc_law.nd rfl (.inl rfl))
          (pss_cons (ps_if (pt_cmpR (op_neL hr) (pe_cl c_caughtS hr (by first | decide | omega) (by rfl) (pa_cons (pv 9) (pa_cons (pv 8) (pa_cons (pv 4) (pa_cons (pv 5) pa_nil))))) (pe_lst (pa_cons pe_str pa_nil)) (nomark _))
            (pss_one (ps_ret pe_bl))
            pss_nil)
          (pss_one (ps_if (pt_cmpR (op_neL hr) (pe_cl c_caughtS hr (by first | decide | omega) (by rfl) (pa_cons (pv 9) (pa_cons (pv 3) (pa_cons (pv 8) (pa_cons pe_non pa_nil))))) (pe_lst (pa_cons pe_str pa_nil)) (nomark _))
            (pss_one (ps_ret pe_bl))
            pss_nil)))))))))))
      (pss_one (ps_ret pe_bl))), ?_⟩
  refine q_forR1 (n := ((20 : Nat) : Int)) (ea_cons ev_c ea_nil) ⟨by decide, by decide⟩ (Turn K a ns) (fun H2 e2 => ⟨ex_l e2 seq, none, none, none, none, none, none, none, none, none, rfl⟩) (fun i σ H2 hi tn => ?_) (fun σ H2 tn => ?_)
  · obtain ⟨seq2, y1, y2, y3, y4, y5, y6, y7, y8, y9, hσ⟩ := tn
    subst hσ
    have i20 : i < 20 := by omega
    refine do_set ((ea_cons (ev_var rfl) (ea_cons (ev_var rfl) ea_nil)) H2 (Ex.refl H2) _ fun H3 e3 => ⟨a, ns, i, rfl, ex_l e3 seq2, len, i20, fun p H4 e4 np pu => ?_⟩)
    have seq3 := ex_l e3 seq2
    show tSeq _ _ _ [some (.ref a), some (vi i), some (.ref p), y3, y4, y5, y6, y7, y8, y9] H4
    refine do_par (do_cons ((ea_cons (ev_var rfl) ea_nil) H4 (Ex.refl _) _ fun I1 f1 => ⟨p, p, 0, rfl, pu.ex f1, by decide, fun v1 sg t5 H5 o5 pu5 l5 hF5 so l2 bare1 => do_cons ((ea_cons (ev_var rfl) ea_nil) H5 (Ex.refl _) _ fun I2 f2 => ⟨p, p, t5, rfl, pu5.ex f2, by omega, fun v2 sg2 t6 H6 o6 pu6 l6 hG6 so2 l22 bare2 => do_nil ⟨_, _, rfl, ?_⟩⟩)⟩))
    show tSeq _ _ _ [some (.ref a), some (vi i), some (.ref p), some v1, some v2, y5, y6, y7, y8, y9] H6
    have hF6 : FSig K H6 v1 sg := hF5.off pu5 ((Off.of_ex f2).trans o6)
    have o46 : Off H4 H6 p p := ((Off.of_ex f1).trans o5).trans ((Off.of_ex f2).trans o6)
    refine do_set ((ea_cons (ev_var rfl) (ea_cons (ev_var rfl) (ea_cons (ev_var rfl) ea_nil))) H6 (Ex.refl _) _ fun I3 f3 => ⟨p, p, t6, v1, v2, sg, sg2, rfl, pu6.ex f3, by omega, hF6.ex f3, so, hG6.ex f3, so2, bare2, fun oa ts us t7 H7 o7 pu7 l7 so7 rd lts => ?_⟩)
    have o67 : Off H6 H7 p p := (Off.of_ex f3).trans o7
    have o47 := o46.trans o67
    have hF7 : FSig K H7 v1 sg := hF6.off pu6 o67
    have hG7 : FSig K H7 v2 sg2 := hG6.off pu6 o67
    have hO7 : OwnV K sg sg2 (.ref oa) H7 := ⟨oa, ts, us, rfl, so7, rd.tms, fun t ht => by
      obtain ⟨j, hj, e⟩ := List.mem_iff_getElem.mp ht
      have z := rd.each j hj (by omega)
      rw [e] at z
      exact ⟨z.1, z.2.1⟩, lts⟩
    show tSeq _ _ _ [some (.ref a), some (vi i), some (.ref p), some v1, some v2, some (.ref oa), y6, y7, y8, y9] H7
    refine q_forX (K := K) (do_lst (do_cons (do_ev (ev_var rfl) fun J1 g1 => do_cons ((ea_cons (ev_var rfl) (ea_cons (ev_var rfl) (ea_cons (ev_var rfl) ea_nil))) J1 (Ex.refl _) _ fun J2 g2 => ⟨p, p, t7, .ref oa, v1, sg, sg2, rfl, pu7.ex (g1.trans g2), by omega, hO7.ex (g1.trans g2), hF7.ex (g1.trans g2), so, so2, fun b1 t8 H8 o8 pu8 l8 th8 => do_cons ((ea_cons (ev_var rfl) (ea_cons (ev_var rfl) (ea_cons (ev_var rfl) ea_nil))) H8 (Ex.refl _) _ fun J3 g3 => ⟨p, p, t8, .ref oa, v1, sg, sg2, rfl, pu8.ex g3, by omega, ((hO7.ex (g1.trans g2)).off (pu7.ex (g1.trans g2)) o8).ex g3, ((hF7.ex (g1.trans g2)).off (pu7.ex (g1.trans g2)) o8).ex g3, so, so2, fun b2 t9 H9 o9 pu9 l9 th9 => do_nil ⟨by show 3 ≤ sizeLine; decide, fun la nla => ?_⟩⟩)⟩))))
    have o79 : Off H7 H9 p p := ((Off.of_ex (g1.trans g2)).trans o8).trans ((Off.of_ex g3).trans o9)
    have e10 : Ex H9 (upd H9 la (.lst [.ref oa, b1, b2])) := Ex.new nla
    have hla : (upd H9 la (.lst [.ref oa, b1, b2])) la = some (.lst [.ref oa, b1, b2]) := upd_same
    have th1 : Thg K sg2 b1 (upd H9 la (.lst [.ref oa, b1, b2])) := ((th8.off pu8 ((Off.of_ex g3).trans o9))).st _ _ _ e10
    have th2 : Thg K sg2 b2 (upd H9 la (.lst [.ref oa, b1, b2])) := th9.st _ _ _ e10
    have th0 : Thg K sg2 (.ref oa) (upd H9 la (.lst [.ref oa, b1, b2])) := OwnV.thg so2 so ((hO7.off pu7 o79).ex e10)
    have hF10 : FSig K (upd H9 la (.lst [.ref oa, b1, b2])) v1 sg := (hF7.off pu7 o79).ex e10
    have hG10 : FSig K (upd H9 la (.lst [.ref oa, b1, b2])) v2 sg2 := (hG7.off pu7 o79).ex e10
    have pu10 : Pur (upd H9 la (.lst [.ref oa, b1, b2])) p p t9 := pu9.ex e10
    have o4A : Off H4 (upd H9 la (.lst [.ref oa, b1, b2])) p p := (o47.trans o79).trans (.of_ex e10)
    generalize upd H9 la (.lst [.ref oa, b1, b2]) = HA at *
    have all3 : ∀ (j : Nat) x, ([.ref oa, b1, b2] : List V)[j]? = some x → Thg K sg2 x HA := fun j x hx => by
      have j3 : j < 3 := (List.getElem?_eq_some_iff.mp hx).1
      have : j = 0 ∨ j = 1 ∨ j = 2 := by omega
      rcases this with rfl | rfl | rfl <;> cases Option.some.inj hx <;> assumption
    refine ⟨la, rfl, ⟨_, sq_of hla⟩, for_x (K := K) (a := la) (xs := [.ref oa, b1, b2]) (fun j σ' H' => Ex HA H' ∧ ∃ y6 y7, σ' = [some (.ref a), some (vi i), some (.ref p), some v1, some v2, some (.ref oa), y6, y7, y8, y9]) ⟨Ex.refl _, y6, y7, rfl⟩ (fun j σ' H' _ h => sq_of (h.1 _ _ hla)) (fun j x σ' HB hx hP => ?_) (fun σ' HB hP => ?_)⟩
    · obtain ⟨eB, z6, z7, hσ⟩ := hP
      subst hσ
      obtain ⟨th, tv, tok⟩ := all3 j x hx
      have rpre : ∀ {HC : Hp}, Ex HB HC → RdPre K ((sg, sg2), th) [v1, v2, x] HC := fun {HC} eC => ⟨⟨v1, v2, x, rfl, hF10.ex (eB.trans eC), hG10.ex (eB.trans eC), tv.ex (eB.trans eC)⟩, so, so2, tok.1⟩
      show tSeq _ _ _ [some (.ref a), some (vi i), some (.ref p), some v1, some v2, some (.ref oa), some x, z7, y8, y9] HB
      refine q_asg (ev_strQ (K := K) rfl rfl (ep_ev (ev_var rfl) fun HC eC => (tv.ex (eB.trans eC)).dp) tok.2 (by decide) (by decide)) fun HC eC => ?_
      show tSeq _ _ _ [some (.ref a), some (vi i), some (.ref p), some v1, some v2, some (.ref oa), some x, some (.str (strD th.data)), y8, y9] HC
      refine q_when (b := false) (et_is (et_or (a := false) (b := false) (et_same (d := rdW sg th) (ep_call ((sg, sg2), th) (ea_cons (ev_var rfl) (ea_cons (ev_var rfl) (ea_cons (ev_var rfl) ea_nil))) (fun HD eD => rpre (eC.trans eD))) (ep_call ((sg, sg2), th) (ea_cons (ev_var rfl) (ea_cons (ev_var rfl) (ea_cons (ev_var rfl) ea_nil))) (fun HD eD => rpre (eC.trans eD))) (lay_rdW sg th)) (fun _ => et_test (ev_op (ev_strQ (K := K) rfl rfl (ep_ev (ev_var rfl) fun HD eD => (tv.ex ((eB.trans eC).trans eD)).dp) tok.2 (by decide) (by decide)) (ev_var rfl) (rv_neX rfl rfl)))) rfl) (fun hb => by cases hb) (fun _ HD eD => ?_)
      exact s_when (b := false) (et_is (et_not (et_val (ev_callV (v := .bl true) ((sg, sg2), th) (ea_cons (ev_var rfl) (ea_cons (ev_var rfl) (ea_cons (ev_var rfl) ea_nil))) (fun HE eE => rpre ((eC.trans eD).trans eE)) (fun _ _ p => p)))) rfl) (fun hb => by cases hb) (fun _ HE eE => ⟨eB.trans ((eC.trans eD).trans eE), _, _, rfl⟩)
    · obtain ⟨eB, z6, z7, hσ⟩ := hP
      subst hσ
      have puB := pu10.ex eB
      show tSeq _ _ _ [some (.ref a), some (vi i), some (.ref p), some v1, some v2, some (.ref oa), z6, z7, y8, y9] HB
      refine do_set (do_op (ep_lstR (R := GoneR K p p) GoneR.st (n := 7) (p := p) (c := p) (eas_cons GoneR.st ep_gone0 (eas_cons GoneR.st (gone_l puB) (eas_cons GoneR.st (gone_c (d := .none) ev_c (fun _ => .non) (gb_none.mono (by decide) (by decide)) sig_non) (eas_cons GoneR.st (ep_gone1 (by decide) (int_bd 3 (by decide)) sig_a3) (eas_cons GoneR.st (ep_gone1 (by decide) (int_bd 1 (by decide)) (isNone_f sigs_odd.1)) (eas_cons GoneR.st gone_two (eas_cons GoneR.st (ep_gone1 (by decide) (int_bd 1 (by decide)) (isNone_f sigs_odd.2.1)) eas_nil))))))) (by decide) puB HB (Ex.refl _) _ fun lv HC eC hl => do_take (n := 7) (ev_var rfl) ev_c (puB.ex eC) (by omega) (by decide) (by decide) fun kk HD hkk oD puD => ?_))
      obtain ⟨l, xs, rfl, hl, lp, lc, ln, all⟩ := hl
      have kl : kk < xs.length := by omega
      refine ⟨l, xs, (kk : Int), xs[kk], rfl, rfl, sq_of (oD _ _ lp lc hl), atI_nat (List.getElem?_eq_getElem kl), ?_⟩
      have gone : GoneR K p p xs[kk] HD := (all _ (List.getElem_mem kl)).off (puB.ex eC) oD
      obtain ⟨gd, gz, gg, gs⟩ := gone
      have oAD : Off HA HD p p := (Off.of_ex (eB.trans eC)).trans oD
      have hFD := hF10.off pu10 oAD
      have hGD := hG10.off pu10 oAD
      generalize xs[kk] = ov at gz ⊢
      show tFor _ _ _ _ [some (.ref a), some (vi i), some (.ref p), some v1, some v2, some (.ref oa), z6, z7, some ov, y9] HD
      refine s_forR1 (n := ((4 : Nat) : Int)) (ea_cons ev_c ea_nil) ⟨by decide, by decide⟩ (fun j σ' H' => Ex HD H' ∧ ∃ y9, σ' = [some (.ref a), some (vi i), some (.ref p), some v1, some v2, some (.ref oa), z6, z7, some ov, y9]) (fun HE eE => ⟨eE, y9, rfl⟩) (fun j σ' HE hj hP => ?_) (fun σ' HE hP => ?_)
      · obtain ⟨eE, z9, hσ⟩ := hP
        subst hσ
        have j4 : j < 4 := by omega
        have gg5 : Gb 50 100000 gd := gg.mono (by decide) (by decide)
        show tSeq _ _ _ [some (.ref a), some (vi i), some (.ref p), some v1, some v2, some (.ref oa), z6, z7, some ov, some (vi j)] HE
        refine q_when (b := false) (et_one (z := "signature") (by decide +kernel) (el_call (pre := CsPre K) (j, (((p, p), gd), none)) (ea_cons (ev_var rfl) (ea_cons (ev_var rfl) (ea_cons (ev_var rfl) (ea_cons (ev_var rfl) ea_nil)))) (fun HF eF => ⟨j4, _, _, _, rfl, gg5, gs, _, _, _, rfl, rfl, .inl ⟨rfl, gz.ex (eE.trans eF)⟩⟩)) rfl) (fun hb => by cases hb) (fun _ HF eF => ?_)
        exact s_when (b := false) (et_one (z := "signature") (by decide +kernel) (el_call (pre := CsPre K) (j, (((p, p), gd), some sg)) (ea_cons (ev_var rfl) (ea_cons (ev_var rfl) (ea_cons (ev_var rfl) (ea_cons ev_c ea_nil)))) (fun HG eG => ⟨j4, _, _, _, rfl, gg5, gs, _, _, _, rfl, rfl, .inr ⟨sg, rfl, hFD.ex ((eE.trans eF).trans eG), so, gz.ex ((eE.trans eF).trans eG)⟩⟩)) rfl) (fun hb => by cases hb) (fun _ HG eG => ⟨(eE.trans eF).trans eG, _, rfl⟩)
      · obtain ⟨eE, z9, hσ⟩ := hP
        subst hσ
        exact ⟨sql_through seq3 np e4 ((o4A.trans oAD).trans (.of_ex eE)), _, _, _, _, _, _, _, _, _, rfl⟩
  · obtain ⟨_, y1, y2, y3, y4, y5, y6, y7, y8, y9, hσ⟩ := tn
    subst hσ
    exact s_ret ev_c fun H3 _ => rfl
end
end K11
end
section
namespace K11
open PySem PySem.Spec PyProof.Rows L2 Evl RZ Dw M20
section
variable {P : Program} {w : World} {K : PySem.W.Frag} {mg : Str → Option Value} {base : Heap} {S0 E0 G0 : Addr} {C : Nat → Addr}
theorem c_term_readS (T : Txt mg) (D : Df K mg "term_read" s_term_read ["signature", "other", "reading", "term"]) (c_need_readingS : ClX P w K mg base 7 "need_reading" (spE S0 (S2Pre K 1))) : ClX P w K mg base 8 "term_read" (spE S0 (EPre (S2Pre K 1))) := c_term_readE (fun _ _ _ _ e h => S2Pre.ex e h) T D c_need_readingS
theorem c_model_readS (T : Txt mg) (D : Df K mg "model_read" s_model_read ["signature", "other", "reading", "model"]) (c_need_readingS : ClX P w K mg base 7 "need_reading" (spE S0 (S2Pre K 1))) : ClX P w K mg base 8 "model_read" (spE S0 (EPre (S2Pre K 1))) := c_model_readE (fun _ _ _ _ e h => S2Pre.ex e h) T D c_need_readingS
theorem c_term_readB (T : Txt mg) (D : Df K mg "term_read" s_term_read ["signature", "other", "reading", "term"]) (c_need_readingR : ClX P w K mg base 7 "need_reading" (spE E0 (RbPre K))) : ClX P w K mg base 8 "term_read" (spE E0 (EPre (RbPre K))) := c_term_readE (fun _ _ _ _ e h => RbPre.ex e h) T D c_need_readingR
theorem c_model_readB (T : Txt mg) (D : Df K mg "model_read" s_model_read ["signature", "other", "reading", "model"]) (c_need_readingR : ClX P w K mg base 7 "need_reading" (spE E0 (RbPre K))) : ClX P w K mg base 8 "model_read" (spE E0 (EPre (RbPre K))) := c_model_readE (fun _ _ _ _ e h => RbPre.ex e h) T D c_need_readingR
theorem c_caughtSX (T : Txt mg) (D : Df K mg "_law_caught" s__law_caught ["_law_which", "_law_first", "_law_second", "_law_thing"]) (er : ErK K mg C G0) (c_kind : Cl P w K mg base 1 "_law_kind" (sp_kind K C)) (c_reading_wrongS : ClX P w K mg base 6 "reading_wrong" (spE (C 0) (S2Pre K 1))) (c_term_readS : ClX P w K mg base 8 "term_read" (spE (C 0) (EPre (S2Pre K 1)))) (c_model_readS : ClX P w K mg base 8 "model_read" (spE (C 0) (EPre (S2Pre K 1)))) (c_two_readS : ClX P w K mg base 8 "two_read" (spE (C 0) (S2Pre K 3))) : Cl P w K mg base 9 "_law_caught" (sp_caughtS K) := c_caughtS T D er c_kind c_reading_wrongS c_term_readS c_model_readS c_two_readS
theorem c_caughtDX (T : Txt mg) (D : Df K mg "_law_caught" s__law_caught ["_law_which", "_law_first", "_law_second", "_law_thing"]) (er : ErK K mg C G0) (c_kind : Cl P w K mg base 1 "_law_kind" (sp_kind K C)) (c_term_readB : ClX P w K mg base 8 "term_read" (spE (C 1) (EPre (RbPre K)))) (c_term_readT : ClX P w K mg base 8 "term_read" (spE (C 2) (GNPre K))) (c_model_readB : ClX P w K mg base 8 "model_read" (spE (C 1) (EPre (RbPre K)))) (c_model_readM : ClX P w K mg base 8 "model_read" (spE (C 3) (GNPre K))) (c_two_readR : ClX P w K mg base 8 "two_read" (spE (C 1) (TNPre K))) : Cl P w K mg base 9 "_law_caught" (sp_caughtD K) := c_caughtD T D er c_kind c_term_readB c_term_readT c_model_readB c_model_readM c_two_readR
end
end K11
end
section
namespace K11
open PySem PySem.Spec PyProof.Rows L2 Evl RZ Dw M20
section
variable {K : PySem.W.Frag} {h : Heap} {mg : Str → Option Value}
/-- a def by what the top has written -/
structure Wr (K : PySem.W.Frag) (x : Str) (st : Stmt) (f : Addr) : Prop where
  ex : ∃ (fd : FuncData), Fun K x x st f fd
  at_ : PySem.W.nsIn K mainGlobals x = some (some (.ref f))
theorem wr_mk {x : Str} {st : Stmt} {f : Addr} {od an : Option Addr} {sl : Array (Option Value)} {oc kV dc pm cd ct : Value} (a1 : PySem.W.nsIn K mainGlobals x = some (some (.ref f)))
    (l1 : K.lookup f = some ⟨oc, od, .func (PySem.W.fnOf x x (defArgs st) (defBody st) (defScope st) .none kV dc pm an cd ct), sl⟩) (c1 : PySem.W.codeIn K cd x = true) (k1 : PySem.W.keepIn K (.ref f) = true) : Wr K x st f := ⟨⟨_, fun_mk l1 c1 k1⟩, a1⟩
theorem Wr.df {x : Str} {st : Stmt} {f : Addr} {ps : List Str} (W : Wr K x st f) (X : K.In h) (G : h.Ns mainGlobals mg) (b : ∀ fd, Fun K x x st f fd → Binds K fd ps []) : Df K mg x st ps := by
  obtain ⟨fd, F⟩ := W.ex
  exact ⟨f, fd, F, PySem.W.mg_of X G W.at_, b fd F⟩
/-- the variables, as the top has written them -/
structure WV (K : PySem.W.Frag) (va : Addr) : Prop where
  at_ : PySem.W.nsIn K mainGlobals "VARIABLES" = some (some (.ref va))
  sq : ∀ H, SqT K H va (vars.map V.str)
theorem wv_mk {va : Addr} {sl : Array (Option Value)} {n : Nat} {t0 t1 t2 t3 t4 t5 : Tok} (a1 : PySem.W.nsIn K mainGlobals "VARIABLES" = some (some (.ref va))) (l1 : K.lookup va = some ⟨.type "tuple", none, .seq #[.str "u" t0, .str "v" t1, .str "w" t2, .str "x" t3, .str "y" t4, .str "z" t5] n, sl⟩) : WV K va :=
  ⟨a1, fun H => .inr ⟨_, _, _, l1, rfl, rfl, by show 6 ≤ sizeLine; decide, .cons ⟨_, rfl⟩ (.cons ⟨_, rfl⟩ (.cons ⟨_, rfl⟩ (.cons ⟨_, rfl⟩ (.cons ⟨_, rfl⟩ (.cons ⟨_, rfl⟩ .nil)))))⟩⟩
end
/-- the errors' classes by number -/
def CK (e0 e1 e2 e3 e4 : Addr) : Nat → Addr
  | 0 => e0
  | 1 => e1
  | 2 => e2
  | 3 => e3
  | _ => e4
theorem all_mk {P : Program} {w : World} {K : PySem.W.Frag} {h : Heap} {mg : Str → Option Value} {fa : Addr} (X : K.In h) (G : h.Ns mainGlobals mg) (hfa : mg "law" = some (.ref fa)) (room : Room 40 callerA)
    {fl : Addr} {f0 : Addr} {f1 : Addr} {f2 : Addr} {f3 : Addr} {f4 : Addr} {f5 : Addr} {f6 : Addr} {f7 : Addr} {f8 : Addr} {f9 : Addr} {f10 : Addr} {f11 : Addr} {f12 : Addr} {f13 : Addr} {f14 : Addr} {f15 : Addr} {f16 : Addr} {f17 : Addr} {f18 : Addr} {f19 : Addr} {f20 : Addr} {f21 : Addr} {f22 : Addr} {f23 : Addr} {f24 : Addr} {f25 : Addr} {f26 : Addr} {f27 : Addr} {f28 : Addr} {f29 : Addr} {f30 : Addr} {f31 : Addr} {f32 : Addr} {f33 : Addr} {f34 : Addr} {f35 : Addr} {f36 : Addr} {f37 : Addr} {f38 : Addr} {va : Addr} {G0 e0 e1 e2 e3 e4 : Addr}
    {t_NAME_LETTERS : Tok} {t_MOST_NAME : Tok} {t_MOST_DEEDS : Tok} {t_MOST_PLACES : Tok} {t_MOST_PARTS : Tok} {t_MOST_SIZE : Tok}
    (w0 : Wr K "is_whole" s_is_whole f0)
    (w1 : Wr K "is_below" s_is_below f1)
    (w2 : Wr K "power" s_power f2)
    (w3 : Wr K "is_name" s_is_name f3)
    (w4 : Wr K "is_deed" s_is_deed f4)
    (w5 : Wr K "signature_wrong" s_signature_wrong f5)
    (w6 : Wr K "need_signature" s_need_signature f6)
    (w7 : Wr K "variables_met" s_variables_met f7)
    (w8 : Wr K "variables_of" s_variables_of f8)
    (w9 : Wr K "has_term_form" s_has_term_form f9)
    (w10 : Wr K "wrong_in_term" s_wrong_in_term f10)
    (w11 : Wr K "term_wrong" s_term_wrong f11)
    (w12 : Wr K "is_size" s_is_size f12)
    (w13 : Wr K "first_odd_cell" s_first_odd_cell f13)
    (w14 : Wr K "model_wrong" s_model_wrong f14)
    (w15 : Wr K "need_model" s_need_model f15)
    (w16 : Wr K "need_term" s_need_term f16)
    (w17 : Wr K "_law_mixed" s__law_mixed f17)
    (w18 : Wr K "_law_pile" s__law_pile f18)
    (w19 : Wr K "_law_take" s__law_take f19)
    (w20 : Wr K "_law_order" s__law_order f20)
    (w21 : Wr K "_law_word" s__law_word f21)
    (w22 : Wr K "_law_signature" s__law_signature f22)
    (w23 : Wr K "_law_term" s__law_term f23)
    (w24 : Wr K "_law_parts" s__law_parts f24)
    (w25 : Wr K "_law_letters" s__law_letters f25)
    (w26 : Wr K "_law_reading" s__law_reading f26)
    (w27 : Wr K "_law_strange" s__law_strange f27)
    (w28 : Wr K "is_reading_of_deed" s_is_reading_of_deed f28)
    (w29 : Wr K "reading_wrong" s_reading_wrong f29)
    (w30 : Wr K "_law_due" s__law_due f30)
    (w31 : Wr K "two_read" s_two_read f31)
    (w32 : Wr K "need_reading" s_need_reading f32)
    (w33 : Wr K "term_read" s_term_read f33)
    (w34 : Wr K "model_read" s_model_read f34)
    (w35 : Wr K "_law_kind" s__law_kind f35)
    (w36 : Wr K "_law_refused" s__law_refused f36)
    (w37 : Wr K "_law_bent" s__law_bent f37)
    (w38 : Wr K "_law_caught" s__law_caught f38)
    (wl : Wr K "law" s_law fl)
    (wv : WV K va)
    (x6 : PySem.W.specialIn K (.builtin "object.__class__") "__get__" = some (some (.builtin "getset_descriptor.__get__")))
    (x7 : PySem.W.takesIn K (.builtin "object.__class__") = some true)
    (xg : PySem.W.nsIn K mainGlobals "DeedError" = some (some (.ref G0)))
    (y1 : PySem.W.subIn K (.ref G0) (.type "BaseException") = some true)
    (y2 : PySem.W.hasDictIn K G0 = true)
    (y3 : PySem.W.typeIn K (.ref G0) = some (.type "type"))
    (xa0 : PySem.W.nsIn K mainGlobals "NoSignature" = some (some (.ref e0)))
    (xa1 : PySem.W.nsIn K mainGlobals "NoReading" = some (some (.ref e1)))
    (xa2 : PySem.W.nsIn K mainGlobals "NoTerm" = some (some (.ref e2)))
    (xa3 : PySem.W.nsIn K mainGlobals "NoModel" = some (some (.ref e3)))
    (xa4 : PySem.W.nsIn K mainGlobals "TooBig" = some (some (.ref e4)))
    (xk0 : PySem.W.keepIn K (.ref e0) = true)
    (xq0 : PySem.W.excIn K e0 [.type "ValueError", .type "Exception", .type "BaseException", .type "object"] "ValueError.__new__" = true)
    (xt0 : PySem.W.typeIn K (.ref e0) = some (.type "type"))
    (x1_0 : PySem.W.findIn K (.ref e0) "__getattribute__" = some (some (.builtin "BaseException.__getattribute__")))
    (x2_0 : PySem.W.findIn K (.ref e0) "__getattr__" = some none)
    (x3_0 : PySem.W.subIn K (.ref e0) (.type "BaseException") = some true)
    (x4_0 : PySem.W.hasDictIn K e0 = true)
    (x5_0 : PySem.W.findIn K (.ref e0) "__class__" = some (some (.builtin "object.__class__")))
    (x8_0 : PySem.W.mroIn K e0 (.type "object") = some true)
    (y4_0 : PySem.W.subIn K (.ref e0) (.ref G0) = some true)
    (v_0 : PySem.W.kitOne K (.ref e0) (.type "ValueError") = some true)
    (o0_0 : PySem.W.kitOne K (.ref e0) (.ref e0) = some true)
    (o0_1 : PySem.W.kitOne K (.ref e0) (.ref e1) = some false)
    (o0_2 : PySem.W.kitOne K (.ref e0) (.ref e2) = some false)
    (o0_3 : PySem.W.kitOne K (.ref e0) (.ref e3) = some false)
    (o0_4 : PySem.W.kitOne K (.ref e0) (.ref e4) = some false)
    (xk1 : PySem.W.keepIn K (.ref e1) = true)
    (xq1 : PySem.W.excIn K e1 [.type "ValueError", .type "Exception", .type "BaseException", .type "object"] "ValueError.__new__" = true)
    (xt1 : PySem.W.typeIn K (.ref e1) = some (.type "type"))
    (x1_1 : PySem.W.findIn K (.ref e1) "__getattribute__" = some (some (.builtin "BaseException.__getattribute__")))
    (x2_1 : PySem.W.findIn K (.ref e1) "__getattr__" = some none)
    (x3_1 : PySem.W.subIn K (.ref e1) (.type "BaseException") = some true)
    (x4_1 : PySem.W.hasDictIn K e1 = true)
    (x5_1 : PySem.W.findIn K (.ref e1) "__class__" = some (some (.builtin "object.__class__")))
    (x8_1 : PySem.W.mroIn K e1 (.type "object") = some true)
    (y4_1 : PySem.W.subIn K (.ref e1) (.ref G0) = some true)
    (v_1 : PySem.W.kitOne K (.ref e1) (.type "ValueError") = some true)
    (o1_0 : PySem.W.kitOne K (.ref e1) (.ref e0) = some false)
    (o1_1 : PySem.W.kitOne K (.ref e1) (.ref e1) = some true)
    (o1_2 : PySem.W.kitOne K (.ref e1) (.ref e2) = some false)
    (o1_3 : PySem.W.kitOne K (.ref e1) (.ref e3) = some false)
    (o1_4 : PySem.W.kitOne K (.ref e1) (.ref e4) = some false)
    (xk2 : PySem.W.keepIn K (.ref e2) = true)
    (xq2 : PySem.W.excIn K e2 [.type "ValueError", .type "Exception", .type "BaseException", .type "object"] "ValueError.__new__" = true)
    (xt2 : PySem.W.typeIn K (.ref e2) = some (.type "type"))
    (x1_2 : PySem.W.findIn K (.ref e2) "__getattribute__" = some (some (.builtin "BaseException.__getattribute__")))
    (x2_2 : PySem.W.findIn K (.ref e2) "__getattr__" = some none)
    (x3_2 : PySem.W.subIn K (.ref e2) (.type "BaseException") = some true)
    (x4_2 : PySem.W.hasDictIn K e2 = true)
    (x5_2 : PySem.W.findIn K (.ref e2) "__class__" = some (some (.builtin "object.__class__")))
    (x8_2 : PySem.W.mroIn K e2 (.type "object") = some true)
    (y4_2 : PySem.W.subIn K (.ref e2) (.ref G0) = some true)
    (v_2 : PySem.W.kitOne K (.ref e2) (.type "ValueError") = some true)
    (o2_0 : PySem.W.kitOne K (.ref e2) (.ref e0) = some false)
    (o2_1 : PySem.W.kitOne K (.ref e2) (.ref e1) = some false)
    (o2_2 : PySem.W.kitOne K (.ref e2) (.ref e2) = some true)
    (o2_3 : PySem.W.kitOne K (.ref e2) (.ref e3) = some false)
    (o2_4 : PySem.W.kitOne K (.ref e2) (.ref e4) = some false)
    (xk3 : PySem.W.keepIn K (.ref e3) = true)
    (xq3 : PySem.W.excIn K e3 [.type "ValueError", .type "Exception", .type "BaseException", .type "object"] "ValueError.__new__" = true)
    (xt3 : PySem.W.typeIn K (.ref e3) = some (.type "type"))
    (x1_3 : PySem.W.findIn K (.ref e3) "__getattribute__" = some (some (.builtin "BaseException.__getattribute__")))
    (x2_3 : PySem.W.findIn K (.ref e3) "__getattr__" = some none)
    (x3_3 : PySem.W.subIn K (.ref e3) (.type "BaseException") = some true)
    (x4_3 : PySem.W.hasDictIn K e3 = true)
    (x5_3 : PySem.W.findIn K (.ref e3) "__class__" = some (some (.builtin "object.__class__")))
    (x8_3 : PySem.W.mroIn K e3 (.type "object") = some true)
    (y4_3 : PySem.W.subIn K (.ref e3) (.ref G0) = some true)
    (v_3 : PySem.W.kitOne K (.ref e3) (.type "ValueError") = some true)
    (o3_0 : PySem.W.kitOne K (.ref e3) (.ref e0) = some false)
    (o3_1 : PySem.W.kitOne K (.ref e3) (.ref e1) = some false)
    (o3_2 : PySem.W.kitOne K (.ref e3) (.ref e2) = some false)
    (o3_3 : PySem.W.kitOne K (.ref e3) (.ref e3) = some true)
    (o3_4 : PySem.W.kitOne K (.ref e3) (.ref e4) = some false)
    (z_ValueError : PySem.W.nsIn K mainGlobals "ValueError" = some none)
    (z_abs : PySem.W.nsIn K mainGlobals "abs" = some none)
    (z_all : PySem.W.nsIn K mainGlobals "all" = some none)
    (z_bool : PySem.W.nsIn K mainGlobals "bool" = some none)
    (z_dict : PySem.W.nsIn K mainGlobals "dict" = some none)
    (z_enumerate : PySem.W.nsIn K mainGlobals "enumerate" = some none)
    (z_int : PySem.W.nsIn K mainGlobals "int" = some none)
    (z_isinstance : PySem.W.nsIn K mainGlobals "isinstance" = some none)
    (z_len : PySem.W.nsIn K mainGlobals "len" = some none)
    (z_list : PySem.W.nsIn K mainGlobals "list" = some none)
    (z_range : PySem.W.nsIn K mainGlobals "range" = some none)
    (z_reversed : PySem.W.nsIn K mainGlobals "reversed" = some none)
    (z_set : PySem.W.nsIn K mainGlobals "set" = some none)
    (z_sorted : PySem.W.nsIn K mainGlobals "sorted" = some none)
    (z_str : PySem.W.nsIn K mainGlobals "str" = some none)
    (z_tuple : PySem.W.nsIn K mainGlobals "tuple" = some none)
    (z_zip : PySem.W.nsIn K mainGlobals "zip" = some none)
    (k_NAME_LETTERS : PySem.W.nsIn K mainGlobals "NAME_LETTERS" = some (some (.str "abcdefghijklmnopqrst" t_NAME_LETTERS)))
    (k_MOST_NAME : PySem.W.nsIn K mainGlobals "MOST_NAME" = some (some (.int 4 t_MOST_NAME)))
    (k_MOST_DEEDS : PySem.W.nsIn K mainGlobals "MOST_DEEDS" = some (some (.int 4 t_MOST_DEEDS)))
    (k_MOST_PLACES : PySem.W.nsIn K mainGlobals "MOST_PLACES" = some (some (.int 2 t_MOST_PLACES)))
    (k_MOST_PARTS : PySem.W.nsIn K mainGlobals "MOST_PARTS" = some (some (.int 60 t_MOST_PARTS)))
    (k_MOST_SIZE : PySem.W.nsIn K mainGlobals "MOST_SIZE" = some (some (.int 6 t_MOST_SIZE))) :
    ∃ (fd : FuncData) (st : Stmt) (N : List Str), Fun K "law" "law" st fa fd ∧ FnScope N ["_law_script"] (defScope st) ∧ (∀ (s : Shared) (u : Value), BindsTo s fd ⟨[u], []⟩ [("_law_script", u)]) ∧
      ∀ (base : Heap) (s : Shared) (H : Hp) (cdv : Value) (a : Addr) (ns : List Int), K.In base → base.Ns mainGlobals mg → ns.length ≤ 63 → SqL K H a (ns.map V.int) →
        ∃ t, PSs (cxOf CX0 P w K mg base N "law" (defScope st) fa cdv callerA [] s H E0).nox (defBody st) t ∧ t { nx := fun _ _ => False, rt := fun v _ => v = .bl true } (L2.start N [.ref a]) H := by
  have e := hfa.symm.trans (PySem.W.mg_of X G wl.at_)
  cases e
  have T : Txt mg := {
    z_ValueError := PySem.W.mg_none_of X G z_ValueError
    z_abs := PySem.W.mg_none_of X G z_abs
    z_all := PySem.W.mg_none_of X G z_all
    z_bool := PySem.W.mg_none_of X G z_bool
    z_dict := PySem.W.mg_none_of X G z_dict
    z_enumerate := PySem.W.mg_none_of X G z_enumerate
    z_int := PySem.W.mg_none_of X G z_int
    z_isinstance := PySem.W.mg_none_of X G z_isinstance
    z_len := PySem.W.mg_none_of X G z_len
    z_list := PySem.W.mg_none_of X G z_list
    z_range := PySem.W.mg_none_of X G z_range
    z_reversed := PySem.W.mg_none_of X G z_reversed
    z_set := PySem.W.mg_none_of X G z_set
    z_sorted := PySem.W.mg_none_of X G z_sorted
    z_str := PySem.W.mg_none_of X G z_str
    z_tuple := PySem.W.mg_none_of X G z_tuple
    z_zip := PySem.W.mg_none_of X G z_zip
    c_NAME_LETTERS := ⟨_, PySem.W.mg_of X G k_NAME_LETTERS⟩
    c_MOST_NAME := ⟨_, PySem.W.mg_of X G k_MOST_NAME⟩
    c_MOST_DEEDS := ⟨_, PySem.W.mg_of X G k_MOST_DEEDS⟩
    c_MOST_PLACES := ⟨_, PySem.W.mg_of X G k_MOST_PLACES⟩
    c_MOST_PARTS := ⟨_, PySem.W.mg_of X G k_MOST_PARTS⟩
    c_MOST_SIZE := ⟨_, PySem.W.mg_of X G k_MOST_SIZE⟩ }
  have V0 : Vars K mg va := ⟨PySem.W.mg_of X G wv.at_, wv.sq⟩
  have xt_0 : ExcT K mg "NoSignature" e0 := ⟨PySem.W.mg_of X G xa0, xk0, xq0, xt0, ⟨x1_0, x2_0, x3_0, x4_0, x5_0, x6, x7, x8_0⟩⟩
  have xm_0 := PySem.W.exm_ref y1 y2 y3 y4_0
  have xt_1 : ExcT K mg "NoReading" e1 := ⟨PySem.W.mg_of X G xa1, xk1, xq1, xt1, ⟨x1_1, x2_1, x3_1, x4_1, x5_1, x6, x7, x8_1⟩⟩
  have xm_1 := PySem.W.exm_ref y1 y2 y3 y4_1
  have xt_2 : ExcT K mg "NoTerm" e2 := ⟨PySem.W.mg_of X G xa2, xk2, xq2, xt2, ⟨x1_2, x2_2, x3_2, x4_2, x5_2, x6, x7, x8_2⟩⟩
  have xm_2 := PySem.W.exm_ref y1 y2 y3 y4_2
  have xt_3 : ExcT K mg "NoModel" e3 := ⟨PySem.W.mg_of X G xa3, xk3, xq3, xt3, ⟨x1_3, x2_3, x3_3, x4_3, x5_3, x6, x7, x8_3⟩⟩
  have xm_3 := PySem.W.exm_ref y1 y2 y3 y4_3
  have xg0 := PySem.W.mg_of X G xg
  have erK : ErK K mg (CK e0 e1 e2 e3 e4) G0 := {
    g := xg0
    m0 := PySem.W.mg_of X G xa0
    m1 := PySem.W.mg_of X G xa1
    m2 := PySem.W.mg_of X G xa2
    m3 := PySem.W.mg_of X G xa3
    m4 := PySem.W.mg_of X G xa4
    kit := fun i j hi hj => by
      have h1 : i = 0 ∨ i = 1 ∨ i = 2 ∨ i = 3 := by omega
      have h2 : j = 0 ∨ j = 1 ∨ j = 2 ∨ j = 3 ∨ j = 4 := by omega
      rcases h1 with rfl | rfl | rfl | rfl
      · rcases h2 with rfl | rfl | rfl | rfl | rfl
        · exact o0_0
        · exact o0_1
        · exact o0_2
        · exact o0_3
        · exact o0_4
      · rcases h2 with rfl | rfl | rfl | rfl | rfl
        · exact o1_0
        · exact o1_1
        · exact o1_2
        · exact o1_3
        · exact o1_4
      · rcases h2 with rfl | rfl | rfl | rfl | rfl
        · exact o2_0
        · exact o2_1
        · exact o2_2
        · exact o2_3
        · exact o2_4
      · rcases h2 with rfl | rfl | rfl | rfl | rfl
        · exact o3_0
        · exact o3_1
        · exact o3_2
        · exact o3_3
        · exact o3_4
    val := fun i hi => by
      have h1 : i = 0 ∨ i = 1 ∨ i = 2 ∨ i = 3 := by omega
      rcases h1 with rfl | rfl | rfl | rfl
      · exact v_0
      · exact v_1
      · exact v_2
      · exact v_3
    xc := fun i hi => by
      have h1 : i = 0 ∨ i = 1 ∨ i = 2 ∨ i = 3 := by omega
      rcases h1 with rfl | rfl | rfl | rfl
      · exact xt_0.c
      · exact xt_1.c
      · exact xt_2.c
      · exact xt_3.c
    xm := fun i hi => by
      have h1 : i = 0 ∨ i = 1 ∨ i = 2 ∨ i = 3 := by omega
      rcases h1 with rfl | rfl | rfl | rfl
      · exact xm_0
      · exact xm_1
      · exact xm_2
      · exact xm_3 }
  have D0 : Df K mg "is_whole" s_is_whole ["thing"] := w0.df X G fun fd F => by
    obtain ⟨oc, od, kV, doc, pm, an, cdv, ct, osl, e, _⟩ := F.ex
    subst e
    exact F.binds fun _ _ _ _ _ _ us hl => match us, hl with | [_], _ => rfl
  have D1 : Df K mg "is_below" s_is_below ["thing", "size"] := w1.df X G fun fd F => by
    obtain ⟨oc, od, kV, doc, pm, an, cdv, ct, osl, e, _⟩ := F.ex
    subst e
    exact F.binds fun _ _ _ _ _ _ us hl => match us, hl with | [_, _], _ => rfl
  have D2 : Df K mg "power" s_power ["base", "many"] := w2.df X G fun fd F => by
    obtain ⟨oc, od, kV, doc, pm, an, cdv, ct, osl, e, _⟩ := F.ex
    subst e
    exact F.binds fun _ _ _ _ _ _ us hl => match us, hl with | [_, _], _ => rfl
  have D3 : Df K mg "is_name" s_is_name ["thing"] := w3.df X G fun fd F => by
    obtain ⟨oc, od, kV, doc, pm, an, cdv, ct, osl, e, _⟩ := F.ex
    subst e
    exact F.binds fun _ _ _ _ _ _ us hl => match us, hl with | [_], _ => rfl
  have D4 : Df K mg "is_deed" s_is_deed ["thing"] := w4.df X G fun fd F => by
    obtain ⟨oc, od, kV, doc, pm, an, cdv, ct, osl, e, _⟩ := F.ex
    subst e
    exact F.binds fun _ _ _ _ _ _ us hl => match us, hl with | [_], _ => rfl
  have D5 : Df K mg "signature_wrong" s_signature_wrong ["thing"] := w5.df X G fun fd F => by
    obtain ⟨oc, od, kV, doc, pm, an, cdv, ct, osl, e, _⟩ := F.ex
    subst e
    exact F.binds fun _ _ _ _ _ _ us hl => match us, hl with | [_], _ => rfl
  have D6 : Df K mg "need_signature" s_need_signature ["signature"] := w6.df X G fun fd F => by
    obtain ⟨oc, od, kV, doc, pm, an, cdv, ct, osl, e, _⟩ := F.ex
    subst e
    exact F.binds fun _ _ _ _ _ _ us hl => match us, hl with | [_], _ => rfl
  have D7 : Df K mg "variables_met" s_variables_met ["term"] := w7.df X G fun fd F => by
    obtain ⟨oc, od, kV, doc, pm, an, cdv, ct, osl, e, _⟩ := F.ex
    subst e
    exact F.binds fun _ _ _ _ _ _ us hl => match us, hl with | [_], _ => rfl
  have D8 : Df K mg "variables_of" s_variables_of ["terms"] := w8.df X G fun fd F => by
    obtain ⟨oc, od, kV, doc, pm, an, cdv, ct, osl, e, _⟩ := F.ex
    subst e
    exact F.binds fun _ _ _ _ _ _ us hl => match us, hl with | [_], _ => rfl
  have D9 : Df K mg "has_term_form" s_has_term_form ["places", "thing"] := w9.df X G fun fd F => by
    obtain ⟨oc, od, kV, doc, pm, an, cdv, ct, osl, e, _⟩ := F.ex
    subst e
    exact F.binds fun _ _ _ _ _ _ us hl => match us, hl with | [_, _], _ => rfl
  have D10 : Df K mg "wrong_in_term" s_wrong_in_term ["places", "thing"] := w10.df X G fun fd F => by
    obtain ⟨oc, od, kV, doc, pm, an, cdv, ct, osl, e, _⟩ := F.ex
    subst e
    exact F.binds fun _ _ _ _ _ _ us hl => match us, hl with | [_, _], _ => rfl
  have D11 : Df K mg "term_wrong" s_term_wrong ["signature", "thing"] := w11.df X G fun fd F => by
    obtain ⟨oc, od, kV, doc, pm, an, cdv, ct, osl, e, _⟩ := F.ex
    subst e
    exact F.binds fun _ _ _ _ _ _ us hl => match us, hl with | [_, _], _ => rfl
  have D12 : Df K mg "is_size" s_is_size ["thing"] := w12.df X G fun fd F => by
    obtain ⟨oc, od, kV, doc, pm, an, cdv, ct, osl, e, _⟩ := F.ex
    subst e
    exact F.binds fun _ _ _ _ _ _ us hl => match us, hl with | [_], _ => rfl
  have D13 : Df K mg "first_odd_cell" s_first_odd_cell ["size", "tables"] := w13.df X G fun fd F => by
    obtain ⟨oc, od, kV, doc, pm, an, cdv, ct, osl, e, _⟩ := F.ex
    subst e
    exact F.binds fun _ _ _ _ _ _ us hl => match us, hl with | [_, _], _ => rfl
  have D14 : Df K mg "model_wrong" s_model_wrong ["signature", "thing"] := w14.df X G fun fd F => by
    obtain ⟨oc, od, kV, doc, pm, an, cdv, ct, osl, e, _⟩ := F.ex
    subst e
    exact F.binds fun _ _ _ _ _ _ us hl => match us, hl with | [_, _], _ => rfl
  have D15 : Df K mg "need_model" s_need_model ["signature", "model"] := w15.df X G fun fd F => by
    obtain ⟨oc, od, kV, doc, pm, an, cdv, ct, osl, e, _⟩ := F.ex
    subst e
    exact F.binds fun _ _ _ _ _ _ us hl => match us, hl with | [_, _], _ => rfl
  have D16 : Df K mg "need_term" s_need_term ["signature", "term"] := w16.df X G fun fd F => by
    obtain ⟨oc, od, kV, doc, pm, an, cdv, ct, osl, e, _⟩ := F.ex
    subst e
    exact F.binds fun _ _ _ _ _ _ us hl => match us, hl with | [_, _], _ => rfl
  have D17 : Df K mg "_law_mixed" s__law_mixed ["_law_cell", "_law_k"] := w17.df X G fun fd F => by
    obtain ⟨oc, od, kV, doc, pm, an, cdv, ct, osl, e, _⟩ := F.ex
    subst e
    exact F.binds fun _ _ _ _ _ _ us hl => match us, hl with | [_, _], _ => rfl
  have D18 : Df K mg "_law_pile" s__law_pile ["_law_script", "_law_k"] := w18.df X G fun fd F => by
    obtain ⟨oc, od, kV, doc, pm, an, cdv, ct, osl, e, _⟩ := F.ex
    subst e
    exact F.binds fun _ _ _ _ _ _ us hl => match us, hl with | [_, _], _ => rfl
  have D19 : Df K mg "_law_take" s__law_take ["_law_pile_here", "_law_many"] := w19.df X G fun fd F => by
    obtain ⟨oc, od, kV, doc, pm, an, cdv, ct, osl, e, _⟩ := F.ex
    subst e
    exact F.binds fun _ _ _ _ _ _ us hl => match us, hl with | [_, _], _ => rfl
  have D20 : Df K mg "_law_order" s__law_order ["_law_pile_here", "_law_some"] := w20.df X G fun fd F => by
    obtain ⟨oc, od, kV, doc, pm, an, cdv, ct, osl, e, _⟩ := F.ex
    subst e
    exact F.binds fun _ _ _ _ _ _ us hl => match us, hl with | [_, _], _ => rfl
  have D21 : Df K mg "_law_word" s__law_word ["_law_pile_here"] := w21.df X G fun fd F => by
    obtain ⟨oc, od, kV, doc, pm, an, cdv, ct, osl, e, _⟩ := F.ex
    subst e
    exact F.binds fun _ _ _ _ _ _ us hl => match us, hl with | [_], _ => rfl
  have D22 : Df K mg "_law_signature" s__law_signature ["_law_pile_here"] := w22.df X G fun fd F => by
    obtain ⟨oc, od, kV, doc, pm, an, cdv, ct, osl, e, _⟩ := F.ex
    subst e
    exact F.binds fun _ _ _ _ _ _ us hl => match us, hl with | [_], _ => rfl
  have D23 : Df K mg "_law_term" s__law_term ["_law_pile_here", "_law_sig", "_law_letters_here", "_law_depth"] := w23.df X G fun fd F => by
    obtain ⟨oc, od, kV, doc, pm, an, cdv, ct, osl, e, _⟩ := F.ex
    subst e
    exact F.binds fun _ _ _ _ _ _ us hl => match us, hl with | [_, _, _, _], _ => rfl
  have D24 : Df K mg "_law_parts" s__law_parts ["_law_term_here"] := w24.df X G fun fd F => by
    obtain ⟨oc, od, kV, doc, pm, an, cdv, ct, osl, e, _⟩ := F.ex
    subst e
    exact F.binds fun _ _ _ _ _ _ us hl => match us, hl with | [_], _ => rfl
  have D25 : Df K mg "_law_letters" s__law_letters ["_law_term_here"] := w25.df X G fun fd F => by
    obtain ⟨oc, od, kV, doc, pm, an, cdv, ct, osl, e, _⟩ := F.ex
    subst e
    exact F.binds fun _ _ _ _ _ _ us hl => match us, hl with | [_], _ => rfl
  have D26 : Df K mg "_law_reading" s__law_reading ["_law_pile_here", "_law_sig", "_law_other"] := w26.df X G fun fd F => by
    obtain ⟨oc, od, kV, doc, pm, an, cdv, ct, osl, e, _⟩ := F.ex
    subst e
    exact F.binds fun _ _ _ _ _ _ us hl => match us, hl with | [_, _, _], _ => rfl
  have D27 : Df K mg "_law_strange" s__law_strange ["_law_pile_here", "_law_word_here"] := w27.df X G fun fd F => by
    obtain ⟨oc, od, kV, doc, pm, an, cdv, ct, osl, e, _⟩ := F.ex
    subst e
    exact F.binds fun _ _ _ _ _ _ us hl => match us, hl with | [_, _], _ => rfl
  have D28 : Df K mg "is_reading_of_deed" s_is_reading_of_deed ["places", "others", "thing"] := w28.df X G fun fd F => by
    obtain ⟨oc, od, kV, doc, pm, an, cdv, ct, osl, e, _⟩ := F.ex
    subst e
    exact F.binds fun _ _ _ _ _ _ us hl => match us, hl with | [_, _, _], _ => rfl
  have D29 : Df K mg "reading_wrong" s_reading_wrong ["signature", "other", "thing"] := w29.df X G fun fd F => by
    obtain ⟨oc, od, kV, doc, pm, an, cdv, ct, osl, e, _⟩ := F.ex
    subst e
    exact F.binds fun _ _ _ _ _ _ us hl => match us, hl with | [_, _, _], _ => rfl
  have D30 : Df K mg "_law_due" s__law_due ["_law_sig", "_law_other", "_law_thing"] := w30.df X G fun fd F => by
    obtain ⟨oc, od, kV, doc, pm, an, cdv, ct, osl, e, _⟩ := F.ex
    subst e
    exact F.binds fun _ _ _ _ _ _ us hl => match us, hl with | [_, _, _], _ => rfl
  have D31 : Df K mg "two_read" s_two_read ["first", "second", "third", "one", "two"] := w31.df X G fun fd F => by
    obtain ⟨oc, od, kV, doc, pm, an, cdv, ct, osl, e, _⟩ := F.ex
    subst e
    exact F.binds fun _ _ _ _ _ _ us hl => match us, hl with | [_, _, _, _, _], _ => rfl
  have D32 : Df K mg "need_reading" s_need_reading ["signature", "other", "reading"] := w32.df X G fun fd F => by
    obtain ⟨oc, od, kV, doc, pm, an, cdv, ct, osl, e, _⟩ := F.ex
    subst e
    exact F.binds fun _ _ _ _ _ _ us hl => match us, hl with | [_, _, _], _ => rfl
  have D33 : Df K mg "term_read" s_term_read ["signature", "other", "reading", "term"] := w33.df X G fun fd F => by
    obtain ⟨oc, od, kV, doc, pm, an, cdv, ct, osl, e, _⟩ := F.ex
    subst e
    exact F.binds fun _ _ _ _ _ _ us hl => match us, hl with | [_, _, _, _], _ => rfl
  have D34 : Df K mg "model_read" s_model_read ["signature", "other", "reading", "model"] := w34.df X G fun fd F => by
    obtain ⟨oc, od, kV, doc, pm, an, cdv, ct, osl, e, _⟩ := F.ex
    subst e
    exact F.binds fun _ _ _ _ _ _ us hl => match us, hl with | [_, _, _, _], _ => rfl
  have D35 : Df K mg "_law_kind" s__law_kind ["_law_error"] := w35.df X G fun fd F => by
    obtain ⟨oc, od, kV, doc, pm, an, cdv, ct, osl, e, _⟩ := F.ex
    subst e
    exact F.binds fun _ _ _ _ _ _ us hl => match us, hl with | [_], _ => rfl
  have D36 : Df K mg "_law_refused" s__law_refused ["_law_first", "_law_second", "_law_thing"] := w36.df X G fun fd F => by
    obtain ⟨oc, od, kV, doc, pm, an, cdv, ct, osl, e, _⟩ := F.ex
    subst e
    exact F.binds fun _ _ _ _ _ _ us hl => match us, hl with | [_, _, _], _ => rfl
  have D37 : Df K mg "_law_bent" s__law_bent ["_law_pile_here", "_law_own", "_law_sig"] := w37.df X G fun fd F => by
    obtain ⟨oc, od, kV, doc, pm, an, cdv, ct, osl, e, _⟩ := F.ex
    subst e
    exact F.binds fun _ _ _ _ _ _ us hl => match us, hl with | [_, _, _], _ => rfl
  have D38 : Df K mg "_law_caught" s__law_caught ["_law_which", "_law_first", "_law_second", "_law_thing"] := w38.df X G fun fd F => by
    obtain ⟨oc, od, kV, doc, pm, an, cdv, ct, osl, e, _⟩ := F.ex
    subst e
    exact F.binds fun _ _ _ _ _ _ us hl => match us, hl with | [_, _, _, _], _ => rfl
  obtain ⟨fd, F⟩ := wl.ex
  refine ⟨fd, s_law, ["_law_script", "_law_k", "_law_pile_here", "_law_first", "_law_second", "_law_own", "_law_thing", "_law_kept", "_law_odd", "_law_which"], F, sc_law, fun s u => ?_, fun base s H cdv a ns inB nsB len seq => ?_⟩
  · obtain ⟨oc, od, kV, doc, pm, an, cdv, ct, osl, e, _⟩ := F.ex
    subst e
    exact .of_eq rfl
  · have c_is_whole := c_is_whole (P := P) (w := w) (base := base) T D0
    have c_is_below := c_is_below (P := P) (w := w) (base := base) T D1 c_is_whole
    have c_power := c_power (P := P) (w := w) (base := base) T D2
    have c_is_name := c_is_name (P := P) (w := w) (base := base) T D3
    have c_is_deed := c_is_deed (P := P) (w := w) (base := base) T D4 c_is_name c_is_below
    have c_signature_wrong := c_signature_wrong (P := P) (w := w) (base := base) T D5 c_is_deed
    have c_need_signature := c_need_signature (P := P) (w := w) (base := base) T D6 c_signature_wrong
    have c_variables_met := c_variables_met (P := P) (w := w) (base := base) T D7
    have c_variables_of := c_variables_of (P := P) (w := w) (base := base) T D8 c_variables_met
    have c_form_any := c_form_any (P := P) (w := w) (base := base) T V0 D9
    have c_wrong_any := c_wrong_any (P := P) (w := w) (base := base) T D10 c_form_any
    have c_term_any := c_term_any (P := P) (w := w) (base := base) T D11 c_need_signature c_wrong_any
    have c_whole_any := c_whole_any (P := P) (w := w) (base := base) T D0
    have c_below_any := c_below_any (P := P) (w := w) (base := base) T D1 c_whole_any
    have c_name_any := c_name_any (P := P) (w := w) (base := base) T D3
    have c_deed_any := c_deed_any (P := P) (w := w) (base := base) T D4 c_name_any c_below_any
    have c_sig_any := c_sig_any (P := P) (w := w) (base := base) T D5 c_deed_any
    have c_size_any := c_size_any (P := P) (w := w) (base := base) T D12 c_whole_any
    have c_odd_any := c_odd_any (P := P) (w := w) (base := base) T D13 c_below_any
    have c_mod_any := c_mod_any (P := P) (w := w) (base := base) T D14 c_need_signature c_size_any c_power c_odd_any
    have c_need_modelM := c_need_modelM (P := P) (w := w) (base := base) T D15 xt_3 c_mod_any
    have c_need_termB := c_need_termB (P := P) (w := w) (base := base) T D16 xt_2 c_term_any
    have c_mixed := c_mixed (P := P) (w := w) (base := base) T D17
    have c_pile := c_pile (P := P) (w := w) (base := base) T D18
    have c_take := c_take (P := P) (w := w) (base := base) T D19 c_mixed
    have c_order := c_order (P := P) (w := w) (base := base) T D20 c_take
    have c_word := c_word (P := P) (w := w) (base := base) T D21 c_take
    have c_signature := c_signature (P := P) (w := w) (base := base) T D22 c_take c_word c_order
    have c_lterm := c_lterm (P := P) (w := w) (base := base) T D23 c_take 3
    have c_parts := c_parts (P := P) (w := w) (base := base) T D24 9
    have c_letters := c_letters (P := P) (w := w) (base := base) T D25 c_parts
    have c_lreading := c_lreading (P := P) (w := w) (base := base) T D26 c_take c_lterm
    have c_strange := c_strange (P := P) (w := w) (base := base) T D27 c_take
    have c_is_rd := c_is_rd (P := P) (w := w) (base := base) T V0 D28 c_wrong_any c_variables_of
    have c_reading_any := c_reading_any (P := P) (w := w) (base := base) T D29 c_need_signature c_is_rd
    have c_due := c_due (P := P) (w := w) (base := base) T D30 c_term_any c_letters
    have c_need_signatureX := c_need_signatureX (P := P) (w := w) (base := base) T D6 xt_0 c_sig_any
    have c_reading_wrongS := c_reading_wrongS (P := P) (w := w) (base := base) T D29 c_need_signature c_need_signatureX
    have c_two_readS := c_two_readS (P := P) (w := w) (base := base) T D31 c_need_signature c_need_signatureX
    have c_need_readingS := c_need_readingS (P := P) (w := w) (base := base) T D32 c_reading_wrongS
    have c_need_readingR := c_need_readingR (P := P) (w := w) (base := base) T D32 xt_1 c_reading_any
    have c_need_readingG := c_need_readingG (P := P) (w := w) (base := base) T D32 c_reading_any
    have c_term_readT := c_term_readT (P := P) (w := w) (base := base) T D33 c_need_readingG c_need_termB
    have c_model_readM := c_model_readM (P := P) (w := w) (base := base) T D34 c_need_readingG c_need_modelM
    have c_two_readR := c_two_readR (P := P) (w := w) (base := base) T D31 c_need_signature c_need_readingG c_need_readingR
    have c_kind := c_kind (P := P) (w := w) (base := base) T D35 erK
    have c_term_readB := c_term_readB (P := P) (w := w) (base := base) T D33 c_need_readingR
    have c_model_readB := c_model_readB (P := P) (w := w) (base := base) T D34 c_need_readingR
    have c_caughtDX := c_caughtDX (P := P) (w := w) (base := base) T D38 erK c_kind c_term_readB c_term_readT c_model_readB c_model_readM c_two_readR
    have c_refused := c_refused (P := P) (w := w) (base := base) T D36 c_due c_caughtDX
    have c_bent := c_bent (P := P) (w := w) (base := base) T D37 c_take c_strange
    have c_term_readS := c_term_readS (P := P) (w := w) (base := base) T D33 c_need_readingS
    have c_model_readS := c_model_readS (P := P) (w := w) (base := base) T D34 c_need_readingS
    have c_caughtSX := c_caughtSX (P := P) (w := w) (base := base) T D38 erK c_kind c_reading_wrongS c_term_readS c_model_readS c_two_readS
    exact law_ok T c_pile c_take c_signature c_lreading c_bent c_reading_any c_due c_refused c_caughtSX room s H fa cdv a ns len seq
end K11
end
open PySem PySem.W PyProof.Rows
set_option maxHeartbeats 0 in
theorem PySem.Challenge.cw_deedworlds_k11_readings_looked_at_holds : PySem.Challenge.rw_deedworlds_k11_readings_looked_at.Holds := by
  w_on; o_law; k_head; (case hw => w_witness2)
  k_fill
  refine Dw.walkG (l := PySem.Challenge.rw_deedworlds_k11_readings_looked_at) (n := 63) (k := 39) (x := "_law_script") rfl (by decide) rfl ⟨rfl, by decide, by decide⟩ (fun w h Y => PySem.W.kIn_of Y) ?F
  case F =>
    intro w mg fa h KX G hmg
    refine' K11.all_mk KX G hmg ⟨rfl, by decide, by decide⟩ (K11.wr_mk ?a0 ?l0 ?c0 ?k0) (K11.wr_mk ?a1 ?l1 ?c1 ?k1) (K11.wr_mk ?a2 ?l2 ?c2 ?k2) (K11.wr_mk ?a3 ?l3 ?c3 ?k3) (K11.wr_mk ?a4 ?l4 ?c4 ?k4) (K11.wr_mk ?a5 ?l5 ?c5 ?k5) (K11.wr_mk ?a6 ?l6 ?c6 ?k6) (K11.wr_mk ?a7 ?l7 ?c7 ?k7) (K11.wr_mk ?a8 ?l8 ?c8 ?k8) (K11.wr_mk ?a9 ?l9 ?c9 ?k9) (K11.wr_mk ?a10 ?l10 ?c10 ?k10) (K11.wr_mk ?a11 ?l11 ?c11 ?k11) (K11.wr_mk ?a12 ?l12 ?c12 ?k12) (K11.wr_mk ?a13 ?l13 ?c13 ?k13) (K11.wr_mk ?a14 ?l14 ?c14 ?k14) (K11.wr_mk ?a15 ?l15 ?c15 ?k15) (K11.wr_mk ?a16 ?l16 ?c16 ?k16) (K11.wr_mk ?a17 ?l17 ?c17 ?k17) (K11.wr_mk ?a18 ?l18 ?c18 ?k18) (K11.wr_mk ?a19 ?l19 ?c19 ?k19) (K11.wr_mk ?a20 ?l20 ?c20 ?k20) (K11.wr_mk ?a21 ?l21 ?c21 ?k21) (K11.wr_mk ?a22 ?l22 ?c22 ?k22) (K11.wr_mk ?a23 ?l23 ?c23 ?k23) (K11.wr_mk ?a24 ?l24 ?c24 ?k24) (K11.wr_mk ?a25 ?l25 ?c25 ?k25) (K11.wr_mk ?a26 ?l26 ?c26 ?k26) (K11.wr_mk ?a27 ?l27 ?c27 ?k27) (K11.wr_mk ?a28 ?l28 ?c28 ?k28) (K11.wr_mk ?a29 ?l29 ?c29 ?k29) (K11.wr_mk ?a30 ?l30 ?c30 ?k30) (K11.wr_mk ?a31 ?l31 ?c31 ?k31) (K11.wr_mk ?a32 ?l32 ?c32 ?k32) (K11.wr_mk ?a33 ?l33 ?c33 ?k33) (K11.wr_mk ?a34 ?l34 ?c34 ?k34) (K11.wr_mk ?a35 ?l35 ?c35 ?k35) (K11.wr_mk ?a36 ?l36 ?c36 ?k36) (K11.wr_mk ?a37 ?l37 ?c37 ?k37) (K11.wr_mk ?a38 ?l38 ?c38 ?k38) (K11.wr_mk ?al ?ll ?cl ?kl) (K11.wv_mk ?av ?lv) ?x6 ?x7 ?xg ?y1 ?y2 ?y3 ?xa0 ?xa1 ?xa2 ?xa3 ?xa4 ?xk0 ?xq0 ?xt0 ?x1_0 ?x2_0 ?x3_0 ?x4_0 ?x5_0 ?x8_0 ?y4_0 ?v_0 ?o0_0 ?o0_1 ?o0_2 ?o0_3 ?o0_4 ?xk1 ?xq1 ?xt1 ?x1_1 ?x2_1 ?x3_1 ?x4_1 ?x5_1 ?x8_1 ?y4_1 ?v_1 ?o1_0 ?o1_1 ?o1_2 ?o1_3 ?o1_4 ?xk2 ?xq2 ?xt2 ?x1_2 ?x2_2 ?x3_2 ?x4_2 ?x5_2 ?x8_2 ?y4_2 ?v_2 ?o2_0 ?o2_1 ?o2_2 ?o2_3 ?o2_4 ?xk3 ?xq3 ?xt3 ?x1_3 ?x2_3 ?x3_3 ?x4_3 ?x5_3 ?x8_3 ?y4_3 ?v_3 ?o3_0 ?o3_1 ?o3_2 ?o3_3 ?o3_4 ?z_ValueError ?z_abs ?z_all ?z_bool ?z_dict ?z_enumerate ?z_int ?z_isinstance ?z_len ?z_list ?z_range ?z_reversed ?z_set ?z_sorted ?z_str ?z_tuple ?z_zip ?k_NAME_LETTERS ?k_MOST_NAME ?k_MOST_DEEDS ?k_MOST_PLACES ?k_MOST_PARTS ?k_MOST_SIZE
    (case a0 => k_is); (case l0 => k_is); (case c0 => k_is); (case k0 => k_is)
    (case a1 => k_is); (case l1 => k_is); (case c1 => k_is); (case k1 => k_is)
    (case a2 => k_is); (case l2 => k_is); (case c2 => k_is); (case k2 => k_is)
    (case a3 => k_is); (case l3 => k_is); (case c3 => k_is); (case k3 => k_is)
    (case a4 => k_is); (case l4 => k_is); (case c4 => k_is); (case k4 => k_is)
    (case a5 => k_is); (case l5 => k_is); (case c5 => k_is); (case k5 => k_is)
    (case a6 => k_is); (case l6 => k_is); (case c6 => k_is); (case k6 => k_is)
    (case a7 => k_is); (case l7 => k_is); (case c7 => k_is); (case k7 => k_is)
    (case a8 => k_is); (case l8 => k_is); (case c8 => k_is); (case k8 => k_is)
    (case a9 => k_is); (case l9 => k_is); (case c9 => k_is); (case k9 => k_is)
    (case a10 => k_is); (case l10 => k_is); (case c10 => k_is); (case k10 => k_is)
    (case a11 => k_is); (case l11 => k_is); (case c11 => k_is); (case k11 => k_is)
    (case a12 => k_is); (case l12 => k_is); (case c12 => k_is); (case k12 => k_is)
    (case a13 => k_is); (case l13 => k_is); (case c13 => k_is); (case k13 => k_is)
    (case a14 => k_is); (case l14 => k_is); (case c14 => k_is); (case k14 => k_is)
    (case a15 => k_is); (case l15 => k_is); (case c15 => k_is); (case k15 => k_is)
    (case a16 => k_is); (case l16 => k_is); (case c16 => k_is); (case k16 => k_is)
    (case a17 => k_is); (case l17 => k_is); (case c17 => k_is); (case k17 => k_is)
    (case a18 => k_is); (case l18 => k_is); (case c18 => k_is); (case k18 => k_is)
    (case a19 => k_is); (case l19 => k_is); (case c19 => k_is); (case k19 => k_is)
    (case a20 => k_is); (case l20 => k_is); (case c20 => k_is); (case k20 => k_is)
    (case a21 => k_is); (case l21 => k_is); (case c21 => k_is); (case k21 => k_is)
    (case a22 => k_is); (case l22 => k_is); (case c22 => k_is); (case k22 => k_is)
    (case a23 => k_is); (case l23 => k_is); (case c23 => k_is); (case k23 => k_is)
    (case a24 => k_is); (case l24 => k_is); (case c24 => k_is); (case k24 => k_is)
    (case a25 => k_is); (case l25 => k_is); (case c25 => k_is); (case k25 => k_is)
    (case a26 => k_is); (case l26 => k_is); (case c26 => k_is); (case k26 => k_is)
    (case a27 => k_is); (case l27 => k_is); (case c27 => k_is); (case k27 => k_is)
    (case a28 => k_is); (case l28 => k_is); (case c28 => k_is); (case k28 => k_is)
    (case a29 => k_is); (case l29 => k_is); (case c29 => k_is); (case k29 => k_is)
    (case a30 => k_is); (case l30 => k_is); (case c30 => k_is); (case k30 => k_is)
    (case a31 => k_is); (case l31 => k_is); (case c31 => k_is); (case k31 => k_is)
    (case a32 => k_is); (case l32 => k_is); (case c32 => k_is); (case k32 => k_is)
    (case a33 => k_is); (case l33 => k_is); (case c33 => k_is); (case k33 => k_is)
    (case a34 => k_is); (case l34 => k_is); (case c34 => k_is); (case k34 => k_is)
    (case a35 => k_is); (case l35 => k_is); (case c35 => k_is); (case k35 => k_is)
    (case a36 => k_is); (case l36 => k_is); (case c36 => k_is); (case k36 => k_is)
    (case a37 => k_is); (case l37 => k_is); (case c37 => k_is); (case k37 => k_is)
    (case a38 => k_is); (case l38 => k_is); (case c38 => k_is); (case k38 => k_is)
    (case al => k_is); (case ll => k_is); (case cl => k_is); (case kl => k_is)
    (case av => k_is); (case lv => k_is)
    (case x6 => k_is); (case x7 => k_is); (case xg => k_is); (case y1 => k_is); (case y2 => k_is); (case y3 => k_is); (case xa0 => k_is); (case xa1 => k_is); (case xa2 => k_is); (case xa3 => k_is); (case xa4 => k_is); (case xk0 => k_is); (case xq0 => k_exc); (case xt0 => k_is); (case x1_0 => k_is); (case x2_0 => k_is); (case x3_0 => k_is); (case x4_0 => k_is); (case x5_0 => k_is); (case x8_0 => k_is); (case y4_0 => first | rfl | k_is); (case v_0 => kit_is); (case o0_0 => kit_is); (case o0_1 => kit_is); (case o0_2 => kit_is); (case o0_3 => kit_is); (case o0_4 => kit_is); (case xk1 => k_is); (case xq1 => k_exc); (case xt1 => k_is); (case x1_1 => k_is); (case x2_1 => k_is); (case x3_1 => k_is); (case x4_1 => k_is); (case x5_1 => k_is); (case x8_1 => k_is); (case y4_1 => first | rfl | k_is); (case v_1 => kit_is); (case o1_0 => kit_is); (case o1_1 => kit_is); (case o1_2 => kit_is); (case o1_3 => kit_is); (case o1_4 => kit_is); (case xk2 => k_is); (case xq2 => k_exc); (case xt2 => k_is); (case x1_2 => k_is); (case x2_2 => k_is); (case x3_2 => k_is); (case x4_2 => k_is); (case x5_2 => k_is); (case x8_2 => k_is); (case y4_2 => first | rfl | k_is); (case v_2 => kit_is); (case o2_0 => kit_is); (case o2_1 => kit_is); (case o2_2 => kit_is); (case o2_3 => kit_is); (case o2_4 => kit_is); (case xk3 => k_is); (case xq3 => k_exc); (case xt3 => k_is); (case x1_3 => k_is); (case x2_3 => k_is); (case x3_3 => k_is); (case x4_3 => k_is); (case x5_3 => k_is); (case x8_3 => k_is); (case y4_3 => first | rfl | k_is); (case v_3 => kit_is); (case o3_0 => kit_is); (case o3_1 => kit_is); (case o3_2 => kit_is); (case o3_3 => kit_is); (case o3_4 => kit_is)
    (case z_ValueError => k_is); (case z_abs => k_is); (case z_all => k_is); (case z_bool => k_is); (case z_dict => k_is); (case z_enumerate => k_is); (case z_int => k_is); (case z_isinstance => k_is); (case z_len => k_is); (case z_list => k_is); (case z_range => k_is); (case z_reversed => k_is); (case z_set => k_is); (case z_sorted => k_is); (case z_str => k_is); (case z_tuple => k_is); (case z_zip => k_is)
    (case k_NAME_LETTERS => k_is); (case k_MOST_NAME => k_is); (case k_MOST_DEEDS => k_is); (case k_MOST_PLACES => k_is); (case k_MOST_PARTS => k_is); (case k_MOST_SIZE => k_is)
