import PyProof.Rows.All
import Wide.All
import OpenK.AllK
import Wide.FinOn
import PySem.Challenge.RW_deedworlds_k22_likeness_judged
import HandS.Base
import HandS.Call
import HandS.List
import HandS.Comp
import HandS.Iter
import HandS.Evl
import HandS.Words
import KE.GoesMore
import KE.GoesEnum
import PyProof.ReprRoads
import PyProof.AutoIntOps
import HandS.Ends
import HandS.ForMost
import HandS.IsInst
import HandS.Zip
import HandS.TupAny
import HandS.Conv
import HandS.NoneIn
import HandS.More
import HandS.Wide
import HandS.Walk
import HandS.ReCall
import KE.KIndexOf
import PyProof.Rows.RegFStrParts
import HandS.Deep
import KE.KDictPairs
import KE.KDictZip
import HandS.Dict
import HandS.Set
import HandS.SetFor
import HandS.TupSets
import PyProof.Rows.SortStr
import HandS.Strs
import KE.DatumOrd
import PyProof.Rows.SetFrom
import KE.SortData
import HandS.Style
import KE.GoesZip
import PyProof.ListStr
import HandS.FStr
import HandS.DictComp
import HandS.ListItems
import HandS.Text
import KE.KEqDict
import KE.KDictItemsList
import HandS.TupMul
import HandS.Exc
import HandS.ExcOwn
import HandS.WordsExc
import KE.KExcIs
import HandS.ExcIs
import PyProof.RowDictHeap
import PyProof.ReprLen
import HandS.RaiseMore
import KE.KTupSum
import HandS.SortKw
import HandS.Sort
import HandS.Small
import HandS.RevRange
import HandS.SortOrd
import HandS.SortInts
import HandS.Codes
set_option Elab.async false
set_option linter.all false
set_option maxRecDepth 100000
set_option maxHeartbeats  4000000
section
/-! a rule of our own over the hand layer: for .. in enumerate(a tuple) -/
namespace Dw
open PySem PySem.Spec PyProof.Rows L2
/-- the walker of a tuple, and what counts beside it, as enumerate lays them -/
abbrev tupWalker (tp : Addr) : Obj := { cls := .type "tuple_iterator", data := .fields #[.ref tp, .int 0 0] }
abbrev counter (wk : Addr) : Obj := { cls := .type "enumerate", data := .fields #[.none, .bool false, .ref wk, rawInt 0, .none, .none] }
theorem new_enumT (tp : Addr) (cells : Array Value) (cap : Nat) (dc : Option Addr) (osl : Array (Option Value)) :
    Meets (Builtin.«enumerate.__new__» ⟨[.type "enumerate", .ref tp], []⟩) (fun _ R s => s.heap.get? tp = some { cls := .type "tuple", dict := dc, data := .seq cells cap, slots := osl } ∧
      R (.ok (.ret (.ref (s.heap.push (tupWalker tp)).objs.size))) { s with heap := (s.heap.push (tupWalker tp)).push (counter s.heap.objs.size) }) := by
  refine .of_wp fun prog w A R s pre => ?_
  obtain ⟨hp, glo, dep, tk, os⟩ := s
  obtain ⟨at_, goal⟩ := pre
  have isSub := sub_enumerate
  have isTup : Heap.IsTuple (Shared.heap ⟨hp, glo, dep, tk, os⟩) tp cells := ⟨_, at_, rfl, cap, rfl⟩
  wp_walk using AutoSeq1.wpAny_loadPart' at_
  refine wpAny_stack_any (fun _ => wpAny_pure ?_)
  split
  case h_1 cl _ _ _ _ _ =>
    generalize (cl == Value.type "enumerate") = same
    cases same <;> (wp_walk using AutoSeq1.wpAny_loadPart' at_, wpAny_pyIter_tuple isTup; exact ⟨_, rfl, goal⟩)
  case h_2 =>
    wp_walk using AutoSeq1.wpAny_loadPart' at_, wpAny_pyIter_tuple isTup
    exact ⟨_, rfl, goal⟩
/-- what stands behind enumerate(tuple): two new objects, all else as it was -/
structure Laid (old new : Heap) (tp : Addr) : Prop where
  cnt : IsEnum new (old.objs.size + 1) old.objs.size 0 .none
  wlk : new.IsTupleIter old.objs.size tp 0
  kept : ∀ b o, old.get? b = some o → new.get? b = some o
theorem laid_mk (old : Heap) (tp : Addr) : Laid old ((old.push (tupWalker tp)).push (counter old.objs.size)) tp := by
  have size1 : (old.push (tupWalker tp)).objs.size = old.objs.size + 1 := Heap.size_push ..
  have last := Heap.get?_push_size (old.push (tupWalker tp)) (o := counter old.objs.size) rfl
  rw [size1] at last
  exact ⟨last, ⟨tupWalker tp, Heap.get?_push_of_some _ (Heap.get?_push_size _ rfl), rfl, rfl⟩, fun b o q => Heap.get?_push_of_some _ (Heap.get?_push_of_some _ q)⟩
theorem call_enumT {prog : Program} {w : World} {A : Around} {E Q : Value → Shared → Prop} {s : Shared} {tp : Addr} {cells : Array Value} (isTup : s.heap.IsTuple tp cells)
    (next : ∀ new, Laid s.heap new tp → Q (.ref (s.heap.objs.size + 1)) { s with heap := new }) : wpAny (model prog w) A (call (.type "enumerate") [.ref tp]) Q E s := by
  obtain ⟨⟨cl, dc, dat, osl⟩, at_, isT, cap, isSeq⟩ := isTup
  have e1 : cl = .type "tuple" := isT
  have e2 : dat = .seq cells cap := isSeq
  subst e1
  subst e2
  have made := laid_mk s.heap tp
  have size1 : (s.heap.push (tupWalker tp)).objs.size = s.heap.objs.size + 1 := Heap.size_push ..
  refine callType_new F.called_enumerate (by decide) (F.typeCall_enumerate_1 _) (F.newCall_enumerate_1 _) (fun ob => F.args_object_init_2 ob _) F.entry_enumerate_new (new_enumT tp cells cap dc osl) (And.intro at_ ?_)
  have e3 : Value.ref (s.heap.push (tupWalker tp)).objs.size = .ref (s.heap.objs.size + 1) := by rw [size1]
  show _ ∧ _
  rw [e3]
  exact And.intro ⟨_, made.cnt, rfl⟩ (next _ made)
/-- the tuple at tp: its items, each in a new pair behind its place -/
def IteT (K : PySem.W.Frag) (tp : Addr) : It :=
  ⟨fun i H => ∃ (xs : List V) (x : V), SqT K H tp xs ∧ xs[i]? = some x, fun i H v H' => ∃ pr x, v = .ref pr ∧ H pr = none ∧ H' = upd H pr (.tup [.int (i : Nat), x]) ∧ ∀ xs, SqT K H tp xs → xs[i]? = some x, fun i H => ∃ xs : List V, SqT K H tp xs ∧ xs.length ≤ i⟩
/-- how the two objects stand ahead of turn i -/
def StandsT (tp cn wk : Addr) (i : Nat) (hp : Heap) : Prop := (∃ old, IsEnum hp cn wk ((i : Nat) : Int) old) ∧ hp.IsTupleIter wk tp i ∧ cn ≠ wk ∧ tp ≠ cn ∧ tp ≠ wk
theorem two {b x y : Addr} {P : Addr → Prop} (hb : b ∈ [x, y]) (px : P x) (py : P y) : P b := by
  rcases List.mem_cons.mp hb with same | same
  · exact same ▸ px
  · exact (List.mem_singleton.mp same) ▸ py
theorem turn_enumT {P : Program} {w : World} {K : PySem.W.Frag} {elts : List Expr} {kk : Nat} {tpos : Pos} (tp cn wk : Addr) : Turn P w K (.Tuple elts kk tpos) (IteT K tp) [cn, wk] cn (StandsT tp cn wk) where
  mem := List.mem_cons_self ..
  obj := by
    intro i hp st b hb
    obtain ⟨⟨_, isE⟩, ⟨o, at_, _, dat⟩, _⟩ := st
    exact two (P := fun b => ∃ o, hp.get? b = some o ∧ ∀ v, o.data ≠ .cell v) hb ⟨_, isE, fun _ q => nomatch q⟩ ⟨o, at_, fun v q => by rw [dat] at q; cases q⟩
  keep := by
    intro i hp hp' st same
    obtain ⟨⟨old, isE⟩, isI, far⟩ := st
    exact ⟨⟨old, same cn (List.mem_cons_self ..) _ isE⟩, isI.at fun o q => same wk (List.mem_cons_of_mem _ (List.mem_singleton.mpr rfl)) o q, far⟩
  item := by
    intro X eP ew eK calm i pins s σ H E I free st here
    subst eP ew eK
    obtain ⟨⟨old, isE⟩, isI, ne1, ne2, ne3⟩ := st
    obtain ⟨xs, x, isT, atx⟩ := here
    obtain ⟨cells, rel, isTup, _⟩ := I.tuple isT
    obtain ⟨u, atu, ru⟩ := rel.get atx
    have low : i < cells.toArray.size := by
      rw [List.size_toArray]
      exact (List.getElem?_eq_some_iff.mp atu).1
    have inCn : cn < s.heap.objs.size := Heap.lt_size isE
    have inWk : wk < s.heap.objs.size := let ⟨_, q, _⟩ := isI; Heap.lt_size q
    have far : cn ∉ [wk, tp] := fun z => by
      rcases List.mem_cons.mp z with one | one
      · exact ne1 one
      · exact ne2 (List.mem_singleton.mp one).symm
    have quiet : X.A.in1.handled = none := I.ok.hd calm
    refine wpAny_pyNext_enum_itemD (Draws.tuple (prog := X.prog) (w := X.w) quiet wk tp ne3 cells.toArray) isE ⟨isI, isTup⟩ low ne1 far fun v hp1 tk isv out st1 pair _ same => ?_
    have ev : v = u := by
      have q : cells.toArray[i]? = some v := isv
      rw [List.getElem?_toArray, atu] at q
      cases q
      rfl
    subst ev
    refine ⟨_, rfl, wpAny_letOwnedTupleGo_enum (s := { s with heap := hp1, toks := tk + 1 }) out fun hp2 isE2 but => ?_⟩
    have pair2 : hp2.get? s.heap.objs.size = some { cls := .type "tuple", data := .seq #[.int i tk, v] } := (but.2 _ (Nat.ne_of_gt inCn)).trans pair
    have fine : ObjOk X.prog X.w (upd H s.heap.objs.size (.tup [.int (i : Nat), x])) hp2 s.heap.objs.size (.tup [.int (i : Nat), x]) :=
      And.intro (show 2 ≤ sizeLine by decide) ⟨[.int i tk, v], .cons ⟨_, rfl⟩ (.cons ru .nil), _, pair2, rfl, _, rfl⟩
    have still : ∀ b ob, b ∉ [cn, wk] → s.heap.get? b = some ob → hp2.get? b = some ob := fun b ob nb q => by
      have n1 : b ≠ cn := fun z => nb (z ▸ List.mem_cons_self ..)
      have n2 : b ≠ wk := fun z => nb (z ▸ List.mem_cons_of_mem _ (List.mem_singleton.mpr rfl))
      rw [but.2 b n1]
      exact same b ob n1 n2 q
    have J := I.turnedNew (ch := [cn, wk]) (t' := tk + 1) still free (Nat.le_refl s.heap.objs.size) fine
    have up : (i : Int) + 1 = ((i + 1 : Nat) : Int) := (Int.natCast_succ i).symm
    rw [up] at isE2
    refine ⟨.ref s.heap.objs.size, _, J, rfl, ⟨_, x, rfl, I.hok.fresh (Nat.le_refl _), rfl, fun ys isY => ?_⟩, ⟨⟨v, isE2⟩, st1.1.at fun o q => (but.2 wk ne1.symm).trans q, ne1, ne2, ne3⟩, fun b hb => ?_⟩
    · rw [I.tuple_inj isY isT]
      exact atx
    · have inB : b < s.heap.objs.size := two (P := fun b => b < s.heap.objs.size) hb inCn inWk
      rw [upd_ne (Nat.ne_of_lt inB)]
      exact (free b hb).1
  done := by
    intro X eP ew eK calm i pins s σ H E I free st over
    subst eP ew eK
    obtain ⟨⟨old, isE⟩, isI, ne1, ne2, ne3⟩ := st
    obtain ⟨xs, isT, short⟩ := over
    obtain ⟨cells, rel, isTup, _⟩ := I.tuple isT
    obtain ⟨g0, g1, g2, g3, g4, g5⟩ := free wk (List.mem_cons_of_mem _ (List.mem_singleton.mpr rfl))
    have many : cells.toArray.size ≤ i := by
      rw [List.size_toArray, ← rel.length]
      exact short
    have quiet : X.A.in1.handled = none := I.ok.hd calm
    have D : Draws X.prog X.w X.A.in1 wk [wk, tp] i (fun _ _ => False) (fun j hp => j = i ∧ hp.IsTupleIter wk tp i ∧ hp.IsTuple tp cells.toArray) :=
      { live := fun _ _ q => let ⟨o, z, _⟩ := q.2.1; ⟨o, z⟩
        frame := fun _ _ _ q same => ⟨q.1, q.2.1.at fun o z => same wk (List.mem_cons_self ..) o z, q.2.2.at fun o z => same tp (List.mem_cons_of_mem _ (List.mem_singleton.mpr rfl)) o z⟩
        item := fun _ _ _ _ less q _ => absurd q.1 (Nat.ne_of_lt less)
        done := fun _ _ _ q ends => wpAny_nextOf_tuple_end quiet q.2.1 q.2.2 (Array.getElem?_eq_none many) ends }
    exact wpAny_pyNext_enum_endD D isE ⟨rfl, isI, isTup⟩ fun hp1 ext => ⟨rfl, I.turned (t' := s.toks) (fun b o nb q => ext b o nb q) g0 g1 g3 g4 g5⟩
  self := by
    intro A i s Q E st q
    obtain ⟨⟨_, isE⟩, _⟩ := st
    exact wpAny_pyIter_enum isE q
def iEnumT (K : PySem.W.Frag) (ta : TA) : TI := fun σ H R => ta σ H fun vs H1 => ∃ tp xs, vs = [.ref tp] ∧ SqT K H1 tp xs ∧ R (IteT K tp) H1
theorem pi_enumT {X : Cx} {e : Expr} {ta : TA} {p pos tpos : Pos} {elts : List Expr} {kk : Nat} (glob : Gl X "enumerate") (none_ : X.mg "enumerate" = none) (arg : PA X [e] ta) (star : starEach [e] X.env = [(false, eval e X.env)] := by rfl) :
    PI X (.Tuple elts kk tpos) (.Call (.Name "enumerate" p) [e] [] pos) (iEnumT X.K ta) := by
  constructor
  intro pins s σ H R I q0
  have given := arg.run pos pins s σ H _ I q0
  refine Call_ (ld_blt I glob none_ boot_enumerate (callWith_type1 (thn given fun us s1 got => ?_) star rfl))
  obtain ⟨vs, H1, J, rel, tp, xs, isOne, isT, q1⟩ := got
  subst isOne
  obtain ⟨u, isU, ru⟩ := vals1 rel
  subst isU
  cases (show u = Value.ref tp from ru)
  obtain ⟨cells, _, isTup, _⟩ := J.tuple isT
  have inTp : tp < s1.heap.objs.size := let ⟨_, at_, _⟩ := (show s1.heap.IsTuple tp cells.toArray from isTup); Heap.lt_size at_
  refine call_enumT isTup fun new made => wpAny_pyIter_enum made.cnt ?_
  have J2 : Inv X pins σ H1 { s1 with heap := new } := J.kept (t' := s1.toks) made.kept
  have stands : StandsT tp (s1.heap.objs.size + 1) s1.heap.objs.size 0 new := ⟨⟨.none, made.cnt⟩, made.wlk, Nat.succ_ne_self _, Nat.ne_of_lt (Nat.lt_succ_of_lt inTp), Nat.ne_of_lt inTp⟩
  refine ⟨s1.heap.objs.size + 1, [s1.heap.objs.size + 1, s1.heap.objs.size], _, _, H1, rfl, J2, turn_enumT tp _ _, stands, fun b hb => ?_, q1⟩
  have late : s1.heap.objs.size ≤ b := two (P := fun b => s1.heap.objs.size ≤ b) hb (Nat.le_succ _) (Nat.le_refl _)
  exact J.fpOk late (J.hok.fresh late)
end Dw
end
section
namespace Dw
open PySem PySem.Spec PyProof.Rows L2
/-! ### repr of data, where nothing is being shown around -/
/-! ### ** of a base that op_pow does not take -/
theorem op_powG {b e : Int} (h0 : 0 < e) (h1 : 1 < b) (hz : Builtin.Int.intTooBig (((Builtin.Int.intBits b : Nat) : Int) * e) = false) {X : Cx} :
    OpR X (binaryOp .Pow) (fun x y H Q => x = .int b ∧ y = .int e ∧ Q (.int (b ^ e.toNat)) H) := by
  intro pins s σ H x y v u Q I rx ry h
  obtain ⟨rfl, rfl, q⟩ := h
  obtain ⟨t1, rfl⟩ := (show ∃ t, v = Value.int b t from rx)
  obtain ⟨t2, rfl⟩ := (show ∃ t, u = Value.int e t from ry)
  refine AutoIntOps.pow_4 (by omega) (by simp; omega) (by simp; omega) (by simp; omega) (by rw [hz]; decide) ?_
  exact ⟨.int (b ^ e.toNat), H, I.tok _, ⟨_, rfl⟩, q⟩
end Dw
end
section
/-! the law's own def, entered from the caller's place itself (so that it is known there that nothing is being shown) -/
namespace Dw
open PySem PySem.Spec PyProof.Rows L2
/-- a def of one parameter, entered at a told place A -/
theorem enter1 {P : Program} {w : World} {K : PySem.W.Frag} {mg : Str → Option Value} {base : Heap} {k : Nat} {x qual : Str} {st : Stmt} {f : Addr} {fd : FuncData} {N : List Str} {A : Around} {outer : List Env} {s : Shared} {H : Hp} {v : V} {u : Value} {Q : VK}
    (F : Fun K qual qual st f fd) (S : FnScope N [x] (defScope st)) (bd : BindsTo s fd ⟨[u], []⟩ [(x, u)]) (room : Room (k + 1) A) (e0 : Env0 P w K mg base A outer s H) (rv : RelV v u)
    (body : ∀ cdv : Value, ∃ t, PSs (cxOf CX0 P w K mg base N qual (defScope st) f cdv A outer s H E0).nox (defBody st) t ∧ t { nx := fun _ H' => Q .non H', rt := Q } (start N [v]) H) :
    codeAny (model P w) A (.call (.ref f) ⟨[u], []⟩) (CR CX0 outer P w H s Q E0) s := by
  obtain ⟨oc, od, kV, doc, pm, an, cdv, ct, osl, efd, look, code⟩ := F.ex
  subst efd
  obtain ⟨t, der, rd⟩ := body cdv
  have kept : ∀ b o, base.get? b = some o → s.heap.get? b = some o := fun b o e => (e0.bs b o e).1
  have inK : K.In s.heap := e0.mod.kin.keeps kept
  refine codeAny_call_function room.depth (inK f _ look) rfl S.co S.gen rfl (PySem.W.codeRec_of inK code) (bd _ _ _ _ ?_)
  have kinds : ∀ y ∈ [(x, u)], (defScope st).names.lookup y.1 = some .local ∨ ((defScope st).names.lookup y.1 = some .cell ∧ ((cellsFrom (s.heap.objs.size + 1) (defScope st).names []).lookup y.1).isSome = true) := by
    intro y hy
    rw [List.mem_singleton.mp hy]
    cases S.par x (List.mem_singleton.mpr rfl) with
    | inl one => exact Or.inl one
    | inr one => exact Or.inr ⟨one, PySem.W.cellsFrom_some _ _ _ (Or.inl one)⟩
  refine wpAny_newFunctionEnv_cells S.kind kinds (fun env isEnv s1 ic => ?_)
  subst isEnv
  have noLim : s.heap.NoLimit := e0.mod.nolimit.keeps kept
  refine ⟨noLim.keeps ic.toInCall.keep, codeAny_func ?_⟩
  have start0 : Inv (cxOf CX0 P w K mg base N qual (defScope st) f cdv A outer s H E0) [] (start N [v]) H s1 := inv_start S room.hd e0 rfl (.cons rv .nil) ic
  refine wpAny_mono (der.nox.run [] s1 (start N [v]) H _ start0 rd) (fun flow s2 done => ?_) (fun _ _ bad => bad)
  match flow, done with
  | .next, ⟨_, H2, inv, q⟩ => exact ⟨.non, H2, inv.os, inv.bare, inv.base, inv.hok, rfl, q⟩
  | .ret _, ⟨v2, _, H2, inv, rel, q⟩ => exact ⟨v2, H2, inv.os, inv.bare, inv.base, inv.hok, rel, q⟩
  | .brk, ⟨_, _, _, q⟩ => exact q.elim
  | .cont, ⟨_, _, _, q⟩ => exact q.elim
/-- how the script stands ahead of the law: tracked as locked, or one of the written part's own -/
def scriptHp (K : PySem.W.Frag) (a : Addr) (ob : Obj) (ns : List Int) : Hp := fun b => if b = a ∧ K.lookup a = none then some (.frz ob (.lst (ns.map V.int))) else none
section
variable {K : PySem.W.Frag} {a : Addr} {ob : Obj} {ns : List Int}
theorem scriptHp_some {b : Addr} {u : HO} (h : scriptHp K a ob ns b = some u) : b = a ∧ K.lookup a = none ∧ u = .frz ob (.lst (ns.map V.int)) := by
  unfold scriptHp at h
  split at h
  · rename_i c
    exact ⟨c.1, c.2, (Option.some.inj h).symm⟩
  · cases h
theorem scriptHp_at (h : K.lookup a = none) : scriptHp K a ob ns a = some (.frz ob (.lst (ns.map V.int))) := if_pos ⟨rfl, h⟩
theorem scriptHp_no {b : Addr} (h : b ≠ a) : scriptHp K a ob ns b = none := if_neg fun c => h c.1
end
/-- the end of a law row whose def is walked from the caller's place -/
theorem walkG {l : PySem.W.OpenLaw} {n k : Nat} {q : Program} {loose : List Str} {XP : (Str → Option Value) → Heap → Prop} {YP : World → Heap → Prop} {d : DefRec} {K : Params → PySem.W.Frag} {x : Str}
    (hn : l.most = some n) (hn2 : n ≤ sizeLine) (hdf : d.params.defaults = []) (room : Room (k + 1) callerA) (hY : ∀ (w : World) (h : Heap), YP w h → (K w.params).In h)
    (F : ∀ (w : World) (mg : Str → Option Value) (fa : Addr) (h : Heap),
      (K w.params).In h → h.Ns mainGlobals mg → mg d.name = some (.ref fa) →
      ∃ (fd : FuncData) (st : Stmt) (N : List Str), Fun (K w.params) d.name d.name st fa fd ∧ FnScope N [x] (defScope st) ∧ (∀ (s : Shared) (u : Value), BindsTo s fd ⟨[u], []⟩ [(x, u)]) ∧
        ∀ (base : Heap) (s : Shared) (H : Hp) (cdv : Value) (a : Addr) (ns : List Int), (K w.params).In base → base.Ns mainGlobals mg → ns.length ≤ n → SqL (K w.params) H a (ns.map V.int) →
          ∃ t, PSs (cxOf CX0 l.prog w (K w.params) mg base N d.name (defScope st) fa cdv callerA [] s H E0).nox (defBody st) t ∧ t { nx := fun _ _ => False, rt := fun v _ => v = .bl true } (start N [.ref a]) H) :
    PySem.W.WalkO q loose XP YP l.row.toRowW d [] (fun g us => PySem.call g us) := by
  refine Att.attach_call hn hdf (fun w _ s mg mb fa _ _ _ _ a vs ns G Y _ _ _ gl isL nums len gens => ?_)
  have inK := hY w s.heap Y
  obtain ⟨fd, st, N, Fn, S, bd, body⟩ := F w mg fa s.heap inK G.T.g gl
  let H : Hp := scriptHp (K w.params) a { cls := .type "list", data := .seq vs.toArray } ns
  have rel : Vals (ns.map V.int) vs := vals_ints nums
  have small : vs.length ≤ sizeLine := by rw [nums.length]; exact Nat.le_trans len hn2
  have okH : HOk l.prog w H s.heap := by
    intro b u e
    obtain ⟨rfl, _, rfl⟩ := scriptHp_some e
    exact ⟨isL, by rw [List.length_map]; exact Nat.le_trans len hn2, vs, _, rel, isL⟩
  have seq : SqL (K w.params) H a (ns.map V.int) := by
    cases lk : (K w.params).lookup a with
    | none => exact Or.inl (Or.inr ⟨_, scriptHp_at lk⟩)
    | some o =>
      have same : o = { cls := .type "list", data := .seq vs.toArray } := Option.some.inj ((inK a o lk).symm.trans isL)
      exact Or.inr ⟨o, vs.toArray, _, lk, by rw [same], by rw [same], by rw [same], by rw [List.size_toArray]; exact small, by simpa using rel⟩
  have freeK : ∀ b o, (K w.params).lookup b = some o → H b = none := by
    intro b o e
    by_cases hb : b = a
    · subst hb
      exact if_neg fun c => by rw [c.2] at e; cases e
    · exact scriptHp_no hb
  have freeD : ∀ b o es ep, s.heap.get? b = some o → o.data = .dict es ep → H b = none := by
    intro b o es ep e dat
    by_cases hb : b = a
    · subst hb
      rw [isL] at e
      cases e
      cases dat
    · exact scriptHp_no hb
  have names : ∀ b m, s.heap.Ns b m → (hidT s.heap H).Ns b m := fun b m ⟨o, es, ep, e, dat, r⟩ => ⟨o, es, ep, hidT_get e (freeD b o es ep e dat), dat, r⟩
  have inB : (K w.params).In (hidT s.heap H) := fun b o e => hidT_get (inK b o e) (freeK b o e)
  have noL : (hidT s.heap H).NoLimit := by
    obtain ⟨mc, c1, c2⟩ := G.T.nolimit
    exact ⟨mc, names _ _ c1, c2⟩
  have e0 : Env0 l.prog w (K w.params) mg (hidT s.heap H) callerA [] s H :=
    { frames := rfl, mod := ⟨inB, names _ _ G.T.g, ⟨mb, names _ _ G.T.b, G.T.builtins⟩, noL⟩, bs := fun b o e => of_hidT e, bsz := Nat.le_of_eq (hidT_size _ _), funs := trivial, frf := fun b hb => absurd (show b ∈ ([] : List Addr) from hb) (by simp), hok := okH, bare := .of_eq gens }
  have run := enter1 (P := l.prog) (v := .ref a) (Q := fun v _ => v = .bl true) Fn S (bd s (.ref a)) room e0 rfl (fun cdv => by
    obtain ⟨t, t1, t2⟩ := body (hidT s.heap H) s H cdv a ns inB (names _ _ G.T.g) len seq
    refine ⟨t, t1, ?_⟩
    have no : (fun (_ : L2.St) (_ : Hp) => (V.non = V.bl true)) = fun _ _ => False := by
      funext _ _
      exact propext ⟨fun z => V.noConfusion z, False.elim⟩
    show t { nx := fun (_ : L2.St) (_ : Hp) => V.non = V.bl true, rt := fun v _ => v = .bl true } (start N [.ref a]) H
    rw [no]
    exact t2)
  refine codeAny_mono run (fun r s2 done => ?_)
  match r, done with
  | .error _, bad => exact bad.elim
  | .ok .next, bad => exact bad.elim
  | .ok .brk, bad => exact bad.elim
  | .ok .cont, bad => exact bad.elim
  | .ok (.ret _), ⟨_, H2, os, bare, un, ok2, rr, isT⟩ =>
    subst isT
    cases (show _ = Value.bool true from rr)
    refine ⟨rfl, OldK.of_keep (fun b o e => ?_), os, bare⟩
    cases tr : H b with
    | none => exact un.keep b o e tr (fun z => absurd (show b ∈ ([] : List Addr) from z) (by simp)) (by simp)
    | some u =>
      obtain ⟨hb, _, hu⟩ := scriptHp_some tr
      subst hb hu
      have still := un.frzs _ _ _ tr
      rw [isL] at e
      cases e
      exact (ok2 _ _ still).1
end Dw
end
section
/-! what a reading evaluates to: more words over Evl; tuples of natural numbers; defs by their names -/
namespace Dw
open PySem PySem.Spec PyProof.Rows L2 Evl
/-! ### defs by their names -/
/-- a def of the text behind the top, all of its parameters without defaults -/
structure Df (K : PySem.W.Frag) (mg : Str → Option Value) (x : Str) (st : Stmt) (ps : List Str) : Prop where
  ex : ∃ (f : Addr) (fd : FuncData), Fun K x x st f fd ∧ mg x = some (.ref f) ∧ Binds K fd ps []
/-- a def that keeps a promise -/
structure Cl (P : Program) (w : World) (K : PySem.W.Frag) (mg : Str → Option Value) (base : Heap) (k : Nat) (x : Str) (sp : Sp) : Prop where
  ex : ∃ (f : Addr) (fd : FuncData) (ps : List Str), FnOk P w K mg base CX0 k f fd ps sp ∧ mg x = some (.ref f) ∧ PySem.W.keepIn K (.ref f) = true ∧ Binds K fd ps []
theorem cl_of {P : Program} {w : World} {K : PySem.W.Frag} {mg : Str → Option Value} {base : Heap} {x : Str} {st : Stmt} {N ps : List Str} {k : Nat} {sp : Sp} (D : Df K mg x st ps) (S : FnScope N ps (defScope st)) (len : ∀ vs H Q E, sp vs H Q E → vs.length = ps.length)
    (body : ∀ (f : Addr) (cdv : Value) (A : Around) (outer : List Env) (s : Shared) (H : Hp) (vs : List V) (Q : VK) (E : XK), Room k (A.deeper (envOfC x (defScope st) s.heap.objs.size f cdv)) → sp vs H Q E →
      ∃ t, PSs (cxOf CX0 P w K mg base N x (defScope st) f cdv A outer s H E).nox (defBody st) t ∧ t { nx := fun _ H' => Q .non H', rt := Q } (start N vs) H) : Cl P w K mg base (k + 1) x sp := by
  obtain ⟨f, fd, F, m, b⟩ := D.ex
  exact ⟨f, fd, ps, F.ok S len (fun cdv A outer s H vs Q E hr h => body f cdv A outer s H vs Q E hr h), m, F.kp, b⟩
theorem pe_cl {X : Cx} {k j : Nat} {x : Str} {sp : Sp} {p pos : Pos} {e : Expr} {es : List Expr} {t : TA} (c : Cl X.prog X.w X.K X.mg X.base k x sp) (hr : Room j X.A) (hk : k ≤ j) (hg : Gl X x) (ha : PA X (e :: es) t)
    (dbg : (x == ("__debug__" : Str)) = false := by decide) (str : starEach (e :: es) X.env = (false, eval e X.env) :: starEach es X.env := by rfl) (bck : (backTo pos (starEach es X.env)).any (·.1) = false := by rfl) :
    PE X (.Call (.Name x p) (e :: es) [] pos) (tCall sp [] E0 t) := by
  obtain ⟨f, fd, ps, F, m, kp, b⟩ := c.ex
  exact pe_call F (hr.mono hk) hg m kp b .nil pass0 ha dbg str bck
/-- a pure promise: of some a what must hold, and what comes back, all that stood left as it was -/
def spX {α : Type} (pre : α → List V → Hp → Prop) (post : α → V → Hp → Prop) : Sp := fun vs H Q _ => ∃ a, pre a vs H ∧ ∀ v H', Ex H H' → post a v H' → Q v H'
/-! ### values of any kind, by what holds of them -/
def EvP (te : TE) (σ : L2.St) (H : Hp) (P : V → Hp → Prop) : Prop := ∀ H1, Ex H H1 → ∀ Q : VK, (∀ v H2, Ex H1 H2 → P v H2 → Q v H2) → te σ H1 Q
section
variable {K : PySem.W.Frag} {σ : L2.St} {H H' : Hp} {ta tb te : TE} {x y z v : V} {P : V → Hp → Prop}
theorem EvP.mono (e : Ex H H') (h : EvP te σ H P) : EvP te σ H' P := fun H1 a Q q => h H1 (e.trans a) Q q
theorem EvP.imp {P' : V → Hp → Prop} (h : EvP te σ H P) (i : ∀ v H', Ex H H' → P v H' → P' v H') : EvP te σ H P' := fun H1 e Q q => h H1 e Q fun v H2 e2 p => q v H2 e2 (i v H2 (e.trans e2) p)
theorem ep_ev (h : Ev te σ H v) (p : ∀ H', Ex H H' → P v H') : EvP te σ H P := fun H1 e Q q => h H1 e Q fun H2 e2 => q v H2 e2 (p H2 (e.trans e2))
theorem ev_ep (h : EvP te σ H fun u _ => u = v) : Ev te σ H v := fun H1 e Q q => h H1 e Q fun u H2 e2 p => by subst p; exact q H2 e2
/-- a call by a pure promise -/
theorem ep_call {α : Type} {pre : α → List V → Hp → Prop} {post : α → V → Hp → Prop} (a : α) {vs : List V} {E : XK} {ta : TA} (h : EvA ta σ H vs) (hp : ∀ H1, Ex H H1 → pre a vs H1) : EvP (tCall (spX pre post) [] E ta) σ H (post a) := fun H1 e Q q =>
  h H1 e _ fun H2 e2 => by
    rw [List.append_nil]
    exact ⟨a, hp H2 (e.trans e2), fun v H3 e3 p => q v H3 (e2.trans e3) p⟩
theorem ev_callV {α : Type} {pre : α → List V → Hp → Prop} {post : α → V → Hp → Prop} (a : α) {vs : List V} {E : XK} {ta : TA} (h : EvA ta σ H vs) (hp : ∀ H1, Ex H H1 → pre a vs H1) (hv : ∀ u H', post a u H' → u = v) : Ev (tCall (spX pre post) [] E ta) σ H v :=
  ev_ep ((ep_call a h hp).imp fun u H' _ p => hv u H' p)
/-! isinstance -/
theorem ev_isi {c : V} {t u : Value} {b : Bool} (ha : Ev ta σ H x) (hc : Ev tb σ H c) (k : ClsV c u) (ty : ∀ H1, Ex H H1 → TyX K H1 x t) (e : PySem.W.kitOne K t u = some b) : Ev (tCB (rIsi K) (tCons ta (tCons tb tNil))) σ H (.bl b) := fun H1 e1 Q q =>
  ha H1 e1 _ fun H2 e2 => hc H2 (e1.trans e2) _ fun H3 e3 => ⟨x, c, t, u, b, rfl, k, ty H3 ((e1.trans e2).trans e3), e, q H3 (e2.trans e3)⟩
theorem tyx_int (i : Int) : TyX K H (.int i) (.type "int") := .base (.int i)
theorem tyx_str (s : Str) : TyX K H (.str s) (.type "str") := .base (.str s)
theorem tyx_bl (b : Bool) : TyX K H (.bl b) (.type "bool") := .base (.bl b)
theorem tyx_non : TyX K H .non (.type "NoneType") := .base .non
theorem tyx_tup {a : Addr} {xs : List V} (h : SqT K H a xs) : TyX K H (.ref a) (.type "tuple") := by
  rcases h with (h | ⟨o, h⟩) | ⟨o, its, n, lk, c, _⟩
  · exact .base (.tup h)
  · exact .fTuple h
  · exact .kTuple lk c
theorem kit_tt : PySem.W.kitOne K (.type "tuple") (.type "tuple") = some true := kit_ty (by decide +kernel)
theorem kit_ii : PySem.W.kitOne K (.type "int") (.type "int") = some true := kit_ty (by decide +kernel)
theorem kit_ib : PySem.W.kitOne K (.type "int") (.type "bool") = some false := kit_ty (by decide +kernel)
theorem kit_ss : PySem.W.kitOne K (.type "str") (.type "str") = some true := kit_ty (by decide +kernel)
/-! len -/
theorem ev_lenT {p : Addr} {xs : List V} (ha : Ev ta σ H (.ref p)) (h : SqT K H p xs) : Ev (tCB (rLenS K) (tCons ta tNil)) σ H (.int (xs.length : Int)) := fun H1 e Q q =>
  ha H1 e _ fun H2 e2 => ⟨p, xs, rfl, Or.inr (ex_t (e.trans e2) h), q H2 e2⟩
def rLenTx : List V → Hp → VK → Prop := fun xs H Q => ∃ z, xs = [.str z] ∧ z.length ≤ sizeLine ∧ Q (.int z.length) H
theorem ev_lenS {z : Str} (ha : Ev ta σ H (.str z)) (h : z.length ≤ 100000) : Ev (tCB rLenTx (tCons ta tNil)) σ H (.int (z.length : Int)) := fun H1 e Q q =>
  ha H1 e _ fun H2 e2 => ⟨z, rfl, sz_of h, q H2 e2⟩
/-- a < b < c and the like -/
theorem ev_chain {r r' : R2} {tc : TE} {x y z : V} {a b : Bool} (ha : Ev ta σ H x) (hb : Ev tb σ H y) (hc : a = true → Ev tc σ H z) (h1 : RV r x y H (.bl a)) (h2 : a = true → RV r' y z H (.bl b)) : Ev (tChain r r' ta tb tc) σ H (.bl (a && b)) := fun H1 e Q q =>
  ha H1 e _ fun H2 e2 => hb H2 (e.trans e2) _ fun H3 e3 => h1 H3 ((e.trans e2).trans e3) _ fun H4 e4 => ⟨a, rfl, by
    have e14 := (e2.trans e3).trans e4
    cases a with
    | true =>
      show tc σ H4 _
      refine hc rfl H4 (e.trans e14) _ fun H5 e5 => ?_
      exact h2 rfl H5 ((e.trans e14).trans e5) Q fun H6 e6 => q H6 ((e14.trans e5).trans e6)
    | false =>
      show Q (.bl false) H4
      exact q H4 e14⟩
theorem et_val {b : Bool} (h : Ev te σ H (.bl b)) : EvT (tB te) σ H b := et_B h
theorem et_isN {x : V} (h : Ev ta σ H x) : EvT (tTest (tOp (fun x y H Q => y = .non ∧ Q (.bl (!decide (x = .non))) H) ta (tC .non))) σ H (!decide (x = .non)) := fun H1 e Q q =>
  h H1 e _ fun H2 e2 => ⟨rfl, _, rfl, q H2 e2⟩
end
/-! ### tuples of natural numbers -/
abbrev vi (k : Nat) : V := .int (k : Int)
theorem atI_vi {xs : List V} {k : Nat} {v : V} (h : xs[k]? = some v) : atI xs (k : Int) = some v := atI_nat h
/-- all tuples that stood stand (lists may have changed) -/
def ET (K : PySem.W.Frag) (H H' : Hp) : Prop := ∀ a xs, SqT K H a xs → SqT K H' a xs
theorem ET.refl {K : PySem.W.Frag} {H : Hp} : ET K H H := fun _ _ h => h
theorem ET.trans {K : PySem.W.Frag} {H H1 H2 : Hp} (a : ET K H H1) (b : ET K H1 H2) : ET K H H2 := fun p xs h => b p xs (a p xs h)
theorem Ex.et {K : PySem.W.Frag} {H H' : Hp} (e : Evl.Ex H H') : ET K H H' := fun _ _ h => ex_t e h
theorem ET.upd {K : PySem.W.Frag} {H H' : Hp} {l : Addr} {xs ys : List V} (e : ET K H H') (h : H' l = some (.lst xs)) : ET K H (upd H' l (.lst ys)) := fun a zs q => by
  rcases e a zs q with (q | ⟨o, q⟩) | q
  · have ne : a ≠ l := fun z => by rw [z, h] at q; cases q
    exact .inl (.inl (by rw [upd_ne ne]; exact q))
  · have ne : a ≠ l := fun z => by rw [z, h] at q; cases q
    exact .inl (.inr ⟨o, by rw [upd_ne ne]; exact q⟩)
  · exact .inr q
def Nats (K : PySem.W.Frag) (H : Hp) (v : V) (ns : List Nat) : Prop := ∃ a, v = .ref a ∧ SqT K H a (ns.map vi)
theorem Nats.et {K : PySem.W.Frag} {H H' : Hp} {v : V} {ns : List Nat} (e : ET K H H') (h : Nats K H v ns) : Nats K H' v ns := let ⟨a, q, s⟩ := h; ⟨a, q, e _ _ s⟩
theorem Nats.ex {K : PySem.W.Frag} {H H' : Hp} {v : V} {ns : List Nat} (e : Evl.Ex H H') (h : Nats K H v ns) : Nats K H' v ns := h.et (Dw.Ex.et e)
theorem paired_imp {α β : Type} {R S : α → β → Prop} (h : ∀ a b, R a b → S a b) : ∀ {xs : List α} {ys : List β}, Paired R xs ys → Paired S xs ys
  | _, _, .nil => .nil
  | _, _, .cons a b => .cons (h _ _ a) (paired_imp h b)
theorem paired_get {α β : Type} {R : α → β → Prop} : ∀ {xs : List α} {ys : List β} {i : Nat} {y : β}, Paired R xs ys → ys[i]? = some y → ∃ x, xs[i]? = some x ∧ R x y
  | _, _, _, _, .nil, h => by simp at h
  | _, _, 0, _, .cons a _, h => by
    have e := Option.some.inj h
    subst e
    exact ⟨_, rfl, a⟩
  | _, _, i + 1, y, .cons _ b, h => by
    obtain ⟨x, e, r⟩ := paired_get (i := i) b h
    exact ⟨x, e, r⟩
theorem paired_len {α β : Type} {R : α → β → Prop} : ∀ {xs : List α} {ys : List β}, Paired R xs ys → xs.length = ys.length
  | _, _, .nil => rfl
  | _, _, .cons _ b => congrArg (· + 1) (paired_len b)
theorem paired_snoc {α β : Type} {R : α → β → Prop} {x : α} {y : β} (r : R x y) : ∀ {xs : List α} {ys : List β}, Paired R xs ys → Paired R (xs ++ [x]) (ys ++ [y])
  | _, _, .nil => .cons r .nil
  | _, _, .cons a b => .cons a (paired_snoc r b)
/-- a tuple of tuples of natural numbers -/
def Tabs (K : PySem.W.Frag) (H : Hp) (v : V) (ts : List (List Nat)) : Prop := ∃ a vs, v = .ref a ∧ SqT K H a vs ∧ Paired (Nats K H) vs ts
theorem Tabs.et {K : PySem.W.Frag} {H H' : Hp} {v : V} {ts : List (List Nat)} (e : ET K H H') (h : Tabs K H v ts) : Tabs K H' v ts := let ⟨a, vs, q, s, p⟩ := h; ⟨a, vs, q, e _ _ s, paired_imp (fun _ _ n => n.et e) p⟩
theorem Tabs.ex {K : PySem.W.Frag} {H H' : Hp} {v : V} {ts : List (List Nat)} (e : Evl.Ex H H') (h : Tabs K H v ts) : Tabs K H' v ts := h.et (Dw.Ex.et e)
/-- a deed; a signature -/
def Deed (K : PySem.W.Frag) (H : Hp) (v : V) (p : Str × Nat) : Prop := ∃ b, v = .ref b ∧ SqT K H b [.str p.1, vi p.2]
theorem Deed.et {K : PySem.W.Frag} {H H' : Hp} {v : V} {p : Str × Nat} (e : ET K H H') (h : Deed K H v p) : Deed K H' v p := let ⟨b, q, s⟩ := h; ⟨b, q, e _ _ s⟩
def Sig (K : PySem.W.Frag) (H : Hp) (v : V) (sg : List (Str × Nat)) : Prop := ∃ a vs, v = .ref a ∧ SqT K H a vs ∧ Paired (Deed K H) vs sg
theorem Sig.et {K : PySem.W.Frag} {H H' : Hp} {v : V} {sg : List (Str × Nat)} (e : ET K H H') (h : Sig K H v sg) : Sig K H' v sg := let ⟨a, vs, q, s, p⟩ := h; ⟨a, vs, q, e _ _ s, paired_imp (fun _ _ n => n.et e) p⟩
theorem Sig.ex {K : PySem.W.Frag} {H H' : Hp} {v : V} {sg : List (Str × Nat)} (e : Evl.Ex H H') (h : Sig K H v sg) : Sig K H' v sg := h.et (Dw.Ex.et e)
/-- a model: its size and its tables -/
def Mdl (K : PySem.W.Frag) (H : Hp) (v : V) (n : Nat) (ts : List (List Nat)) : Prop := ∃ a u, v = .ref a ∧ SqT K H a [vi n, u] ∧ Tabs K H u ts
theorem Mdl.et {K : PySem.W.Frag} {H H' : Hp} {v : V} {n : Nat} {ts : List (List Nat)} (e : ET K H H') (h : Mdl K H v n ts) : Mdl K H' v n ts := let ⟨a, u, q, s, p⟩ := h; ⟨a, u, q, e _ _ s, p.et e⟩
theorem Mdl.ex {K : PySem.W.Frag} {H H' : Hp} {v : V} {n : Nat} {ts : List (List Nat)} (e : Evl.Ex H H') (h : Mdl K H v n ts) : Mdl K H' v n ts := h.et (Dw.Ex.et e)
end Dw
end
section
/-! a def that the module holds under another name too -/
namespace Dw
open PySem PySem.Spec PyProof.Rows L2 Evl
end Dw
end
section
/-! the mathematics of renaming, over plain lists of natural numbers -/
namespace M20
/-- the k-th, 0 where there is none -/
abbrev g (l : List Nat) (k : Nat) : Nat := l.getD k 0
theorem g_eq {l : List Nat} {k : Nat} (h : k < l.length) : l[k]? = some (g l k) := by
  show l[k]? = some (l.getD k 0)
  rw [List.getD_eq_getElem?_getD, List.getElem?_eq_getElem h]
  rfl
theorem ext {l m : List Nat} (h : l.length = m.length) (e : ∀ k, k < l.length → g l k = g m k) : l = m := by
  apply List.ext_getElem? 
  intro k
  by_cases hk : k < l.length
  · rw [g_eq hk, g_eq (h ▸ hk), e k hk]
  · rw [List.getElem?_eq_none_iff.mpr (by omega), List.getElem?_eq_none_iff.mpr (by omega)]
theorem g_map {f : Nat → Nat} {n k : Nat} (h : k < n) : g ((List.range n).map f) k = f k := by
  show ((List.range n).map f).getD k 0 = f k
  rw [List.getD_eq_getElem?_getD, List.getElem?_map, List.getElem?_range h]
  rfl
/-- an order of the size n -/
structure Ord (n : Nat) (o : List Nat) : Prop where
  len : o.length = n
  low : ∀ k, k < n → g o k < n
  inj : ∀ j k, j < n → k < n → g o j = g o k → j = k
/-- what is called k -/
def bk (o : List Nat) : List Nat := (List.range o.length).map fun k => o.idxOf k
theorem bk_len (o : List Nat) : (bk o).length = o.length := by simp [bk]
theorem idx_of {n : Nat} {o : List Nat} (h : Ord n o) {k : Nat} (hk : k < n) : o.idxOf (g o k) = k := by
  have h1 : k < o.length := by rw [h.len]; exact hk
  have hm : g o k ∈ o := List.mem_iff_getElem?.mpr ⟨k, g_eq h1⟩
  have h2 : o.idxOf (g o k) < o.length := List.idxOf_lt_length_of_mem hm
  have h3 : o[o.idxOf (g o k)]? = some (g o k) := by
    rw [List.getElem?_eq_getElem h2, List.getElem_idxOf h2]
  rw [g_eq h2] at h3
  exact h.inj _ _ (by rw [← h.len]; exact h2) hk (Option.some.inj h3)
theorem len_le : ∀ (l m : List Nat), l.Nodup → (∀ x ∈ l, x ∈ m) → l.length ≤ m.length
  | [], _, _, _ => Nat.zero_le _
  | x :: l, m, nd, sub => by
    have hx : x ∈ m := sub x List.mem_cons_self
    have h1 := List.nodup_cons.mp nd
    have h2 := len_le l (m.erase x) h1.2 (fun y hy => (List.mem_erase_of_ne (show y ≠ x from fun e => h1.1 (by rw [← e]; exact hy))).mpr (sub y (List.mem_cons_of_mem _ hy)))
    rw [List.length_erase_of_mem hx] at h2
    have : 0 < m.length := List.length_pos_of_mem hx
    rw [List.length_cons]
    omega
/-- an injective map of the numbers below n hits them all -/
theorem hits : ∀ (n : Nat) (o : List Nat), Ord n o → ∀ k, k < n → k ∈ o := by
  intro n o h k hk
  have nd : o.Nodup := by
    rw [List.nodup_iff_pairwise_ne, List.pairwise_iff_getElem]
    intro i j hi hj hij e
    have hi' : i < n := by rw [← h.len]; exact hi
    have hj' : j < n := by rw [← h.len]; exact hj
    have e1 : g o i = g o j := by
      have a := g_eq hi
      have b := g_eq hj
      rw [List.getElem?_eq_getElem hi] at a
      rw [List.getElem?_eq_getElem hj] at b
      exact (Option.some.inj a).symm.trans (e.trans (Option.some.inj b))
    have := h.inj i j hi' hj' e1
    omega
  have low : ∀ x ∈ o, x < n := by
    intro x hx
    obtain ⟨i, hi, e⟩ := List.mem_iff_getElem.mp hx
    have hi' : i < n := by rw [← h.len]; exact hi
    have a := g_eq hi
    rw [List.getElem?_eq_getElem hi] at a
    have : x = g o i := e.symm.trans (Option.some.inj a)
    rw [this]
    exact h.low i hi'
  by_cases hm : k ∈ o
  · exact hm
  · have h1 := len_le (k :: o) (List.range n) (List.nodup_cons.mpr ⟨hm, nd⟩) (fun x hx => List.mem_range.mpr (by
      rcases List.mem_cons.mp hx with e | e
      · rw [e]; exact hk
      · exact low x e))
    rw [List.length_cons, List.length_range, h.len] at h1
    omega
theorem bk_low {n : Nat} {o : List Nat} (h : Ord n o) {k : Nat} (hk : k < n) : g (bk o) k < n := by
  rw [bk, g_map (by rw [h.len]; exact hk), ← h.len]
  exact List.idxOf_lt_length_of_mem (hits n o h k hk)
/-- there and back -/
theorem bk_g {n : Nat} {o : List Nat} (h : Ord n o) {k : Nat} (hk : k < n) : g (bk o) (g o k) = k := by
  rw [bk, g_map (by rw [h.len]; exact h.low k hk)]
  exact idx_of h hk
theorem g_bk {n : Nat} {o : List Nat} (h : Ord n o) {k : Nat} (hk : k < n) : g o (g (bk o) k) = k := by
  rw [bk, g_map (by rw [h.len]; exact hk)]
  have h2 : o.idxOf k < o.length := List.idxOf_lt_length_of_mem (hits n o h k hk)
  have h3 : o[o.idxOf k]? = some k := by rw [List.getElem?_eq_getElem h2, List.getElem_idxOf h2]
  rw [g_eq h2] at h3
  exact Option.some.inj h3
/-- by the one and then by the other -/
def cmp (a b : List Nat) : List Nat := a.map fun k => g b k
/-! a table of a deed of p places over n numbers -/
structure Tab (n p : Nat) (t : List Nat) : Prop where
  len : t.length = n ^ p
  low : ∀ k, k < n ^ p → g t k < n
/-- the place from which the renamed table has its s-th number -/
def src (n p : Nat) (b : List Nat) (s : Nat) : Nat := if p = 0 then 0 else if p = 1 then g b s else g b (s / n) * n + g b (s % n)
def ren (n p : Nat) (o t : List Nat) : List Nat := (List.range (n ^ p)).map fun s => g o (g t (src n p (bk o) s))
theorem mul_lt {n a b : Nat} (ha : a < n) (hb : b < n) : a * n + b < n * n := by
  have : (a + 1) * n ≤ n * n := Nat.mul_le_mul_right n ha
  rw [Nat.add_mul, Nat.one_mul] at this
  omega
theorem src_low {n p : Nat} {b : List Nat} (hp : p ≤ 2) (hb : ∀ k, k < n → g b k < n) {s : Nat} (hs : s < n ^ p) : src n p b s < n ^ p := by
  unfold src
  match p, hp with
  | 0, _ => simp
  | 1, _ =>
    rw [if_neg (by decide), if_pos rfl]
    rw [Nat.pow_one] at hs ⊢
    exact hb s hs
  | 2, _ =>
    rw [if_neg (by decide), if_neg (by decide)]
    rw [Nat.pow_two] at hs ⊢
    have hn : 0 < n := by
      rcases Nat.eq_zero_or_pos n with e | e
      · subst e; omega
      · exact e
    exact mul_lt (hb _ (Nat.div_lt_of_lt_mul hs)) (hb _ (Nat.mod_lt _ hn))
theorem ren_len (n p : Nat) (o t : List Nat) : (ren n p o t).length = n ^ p := by simp [ren]
theorem ren_g {n p : Nat} {o t : List Nat} {s : Nat} (hs : s < n ^ p) : g (ren n p o t) s = g o (g t (src n p (bk o) s)) := g_map hs
theorem ren_tab {n p : Nat} {o t : List Nat} (hp : p ≤ 2) (ho : Ord n o) (ht : Tab n p t) : Tab n p (ren n p o t) := ⟨ren_len n p o t, fun k hk => by
  rw [ren_g hk]
  exact ho.low _ (ht.low _ (src_low hp (fun _ h => bk_low ho h) hk))⟩
/-! the law's own way: each number of the table put at its place -/
def spot (n p : Nat) (o : List Nat) (k : Nat) : Nat := g o (k % n) * (if 0 < p then 1 else 0) + g o (k / n % n) * n * (if p = 2 then 1 else 0)
theorem spot_low {n p : Nat} {o : List Nat} (hp : p ≤ 2) (ho : Ord n o) {k : Nat} (hk : k < n ^ p) : spot n p o k < n ^ p := by
  unfold spot
  match p, hp with
  | 0, _ => simp
  | 1, _ =>
    rw [Nat.pow_one] at hk ⊢
    rw [if_pos (by decide), if_neg (by decide), Nat.mul_zero, Nat.mul_one, Nat.add_zero, Nat.mod_eq_of_lt hk]
    exact ho.low k hk
  | 2, _ =>
    rw [Nat.pow_two] at hk ⊢
    have hn : 0 < n := by
      rcases Nat.eq_zero_or_pos n with e | e
      · subst e; omega
      · exact e
    rw [if_pos (by decide), if_pos rfl, Nat.mul_one, Nat.mul_one, Nat.add_comm]
    exact mul_lt (ho.low _ (Nat.mod_lt _ hn)) (ho.low _ (Nat.mod_lt _ hn))
theorem src_spot {n p : Nat} {o : List Nat} (hp : p ≤ 2) (ho : Ord n o) {k : Nat} (hk : k < n ^ p) : src n p (bk o) (spot n p o k) = k := by
  unfold spot src
  match p, hp with
  | 0, _ => simp at hk; simp [hk]
  | 1, _ =>
    rw [Nat.pow_one] at hk
    rw [if_neg (by decide), if_pos rfl, if_pos (by decide), if_neg (by decide), Nat.mul_zero, Nat.mul_one, Nat.add_zero, Nat.mod_eq_of_lt hk]
    exact bk_g ho hk
  | 2, _ =>
    rw [Nat.pow_two] at hk
    have hn : 0 < n := by
      rcases Nat.eq_zero_or_pos n with e | e
      · subst e; omega
      · exact e
    have h1 : k / n < n := Nat.div_lt_of_lt_mul hk
    have h2 : k % n < n := Nat.mod_lt _ hn
    rw [if_neg (by decide), if_neg (by decide), if_pos (by decide), if_pos rfl, Nat.mul_one, Nat.mul_one, Nat.mod_eq_of_lt h1]
    have b2 := ho.low _ h2
    rw [Nat.add_mul_div_right _ _ hn, Nat.div_eq_of_lt b2, Nat.zero_add, Nat.add_mul_mod_self_right, Nat.mod_eq_of_lt b2, bk_g ho h1, bk_g ho h2, Nat.mul_comm]
    exact Nat.div_add_mod k n
theorem spot_src {n p : Nat} {o : List Nat} (hp : p ≤ 2) (ho : Ord n o) {s : Nat} (hs : s < n ^ p) : spot n p o (src n p (bk o) s) = s := by
  unfold spot src
  match p, hp with
  | 0, _ => simp at hs; simp [hs]
  | 1, _ =>
    rw [Nat.pow_one] at hs
    rw [if_neg (by decide), if_pos rfl, if_pos (by decide), if_neg (by decide), Nat.mul_zero, Nat.mul_one, Nat.add_zero, Nat.mod_eq_of_lt (bk_low ho hs)]
    exact g_bk ho hs
  | 2, _ =>
    rw [Nat.pow_two] at hs
    have hn : 0 < n := by
      rcases Nat.eq_zero_or_pos n with e | e
      · subst e; omega
      · exact e
    have h1 : s / n < n := Nat.div_lt_of_lt_mul hs
    have h2 : s % n < n := Nat.mod_lt _ hn
    have b1 := bk_low ho h1
    have b2 := bk_low ho h2
    rw [if_neg (by decide), if_neg (by decide), if_pos (by decide), if_pos rfl, Nat.mul_one, Nat.mul_one]
    rw [Nat.add_comm (g (bk o) (s / n) * n), Nat.add_mul_mod_self_right, Nat.mod_eq_of_lt b2, Nat.add_mul_div_right _ _ hn, Nat.div_eq_of_lt b2, Nat.zero_add, Nat.mod_eq_of_lt b1, g_bk ho h1, g_bk ho h2, Nat.add_comm, Nat.mul_comm]
    exact Nat.div_add_mod s n
/-- the first k numbers put -/
def led (n p : Nat) (o t : List Nat) : Nat → List Nat
  | 0 => t
  | k + 1 => (led n p o t k).set (spot n p o k) (g o (g t k))
theorem led_len (n p : Nat) (o t : List Nat) : ∀ k, (led n p o t k).length = t.length
  | 0 => rfl
  | k + 1 => by rw [led, List.length_set, led_len n p o t k]
theorem g_set {l : List Nat} {i k v : Nat} (hi : i < l.length) : g (l.set i v) k = if i = k then v else g l k := by
  show (l.set i v).getD k 0 = _
  rw [List.getD_eq_getElem?_getD, List.getElem?_set]
  by_cases e : i = k
  · subst e
    rw [if_pos rfl, if_pos hi, if_pos rfl]
    rfl
  · rw [if_neg e, if_neg e]
    show _ = l.getD k 0
    rw [List.getD_eq_getElem?_getD]
theorem led_g {n p : Nat} {o t : List Nat} (hp : p ≤ 2) (ho : Ord n o) (ht : Tab n p t) : ∀ k, k ≤ n ^ p → ∀ s, s < n ^ p → src n p (bk o) s < k → g (led n p o t k) s = g o (g t (src n p (bk o) s))
  | 0, _, _, _, h => absurd h (Nat.not_lt_zero _)
  | k + 1, hk, s, hs, h => by
    rw [led, g_set (by rw [led_len, ht.len]; exact spot_low hp ho hk)]
    by_cases e : spot n p o k = s
    · rw [if_pos e, ← e, src_spot hp ho hk]
    · rw [if_neg e]
      apply led_g hp ho ht k (Nat.le_of_lt hk) s hs
      rcases Nat.lt_succ_iff_lt_or_eq.mp h with q | q
      · exact q
      · exact absurd (by rw [← q]; exact spot_src hp ho hs) e
theorem led_ren {n p : Nat} {o t : List Nat} (hp : p ≤ 2) (ho : Ord n o) (ht : Tab n p t) : led n p o t (n ^ p) = ren n p o t := ext (by rw [led_len, ren_len, ht.len]) fun s hs => by
  rw [led_len, ht.len] at hs
  rw [ren_g hs]
  exact led_g hp ho ht _ (Nat.le_refl _) s hs (src_low hp (fun _ h => bk_low ho h) hs)
end M20
end
section
/-! loops and comprehensions over anything that is walked; statements by what holds of a value -/
namespace Dw
open PySem PySem.Spec PyProof.Rows L2 Evl
section
variable {K : PySem.W.Frag} {σ : L2.St} {H H' : Hp} {ta tb te : TE} {t : TT} {x y z v : V} {P : V → Hp → Prop} {D : Ends} {tu tz : TS} {g : TG}
/-! ### statements -/
theorem s_asgP {i : Nat} (h : EvP te σ H P) (k : ∀ v H1, Ex H H1 → P v H1 → D.nx (σ.set i (some v)) H1) : tAsg te (gName i) D σ H := h H (Ex.refl H) _ fun v H1 e p => k v H1 e p
theorem q_asgP {i : Nat} (h : EvP te σ H P) (k : ∀ v H1, Ex H H1 → P v H1 → tz D (σ.set i (some v)) H1) : tSeq (tAsg te (gName i)) tz D σ H := s_asgP (D := { D with nx := tz D }) h k
theorem s_retP (h : EvP te σ H P) (k : ∀ v H1, Ex H H1 → P v H1 → D.rt v H1) : tRet te D σ H := h H (Ex.refl H) _ fun v H1 e p => k v H1 e p
/-- xs.append(e), e by what holds of it -/
theorem s_appP {l : Addr} {xs : List V} (hl : H l = some (.lst xs)) (ha : Ev ta σ H (.ref l)) (h : EvP te σ H P) (hz : xs.length < 100000) (k : ∀ v H1, Ex H H1 → P v H1 → D.nx σ (upd H1 l (.lst (xs ++ [v])))) :
    tDrop (tBM K "list" rAppend ta (tCons te tNil)) D σ H := by
  refine ha H (Ex.refl H) _ fun H1 e1 => ?_
  exact
  ⟨Or.inl ⟨rfl, xs, sq_of (e1 l _ hl)⟩, h H1 e1 _ fun v H2 e2 p => ⟨l, xs, v, rfl, rfl, e2 l _ (e1 l _ hl), sz_lt hz, k v H2 (e1.trans e2) p⟩⟩
/-- arguments, the last of them by what holds of it -/
def EvAP (ta : TA) (σ : L2.St) (H : Hp) (P : List V → Hp → Prop) : Prop := ∀ H1, Ex H H1 → ∀ Q : List V → Hp → Prop, (∀ vs H2, Ex H1 H2 → P vs H2 → Q vs H2) → ta σ H1 Q
/-! ### all -/
theorem ev_all {bs : List Bool} (h : EvL te σ H (bs.map V.bl)) : Ev (tCB (rAll K) (tCons te tNil)) σ H (.bl (bs.all id)) := fun H1 e Q q =>
  h H1 e _ fun p H2 _ e2 hp => ⟨p, bs, rfl, sq_of hp, q H2 e2⟩
/-! ### comprehensions -/
theorem et_yes : EvT tYes σ H true := fun H1 _ _ q => q H1 (Ex.refl H1)
/-- one for over anything whose turns leave the heap as it was -/
theorem el_lcIt {J : It} {n : Nat} {G : Hp → Prop} {Y : Nat → Hp → V → Hp → Prop} {wi : TI} {Px : Nat → V → Prop} {j : Nat} {vs : List Nat} (w : Walk J n G Y)
    (hw0 : ∀ H0, Ex H H0 → ∀ R : It → Hp → Prop, (∀ H1, Ex H0 H1 → R J H1) → wi σ H0 R) (hG : ∀ H1, Ex H H1 → G H1) (hY : ∀ i H x H', Y i H x H' → H' = H ∧ Px i x)
    (f : Nat → Bool) (u : Nat → V) (hn : n ≤ 40000) (hwp : ∀ x, wipe ((wipe σ vs).set j (some x)) vs = wipe σ vs)
    (ht : ∀ i x H1, Ex H H1 → i < n → Px i x → EvT t ((wipe σ vs).set j (some x)) H1 (f i)) (he : ∀ i x H1, Ex H H1 → i < n → Px i x → f i = true → Ev te ((wipe σ vs).set j (some x)) H1 (u i)) :
    EvL (tLc wi (gName j) t te vs) σ H (given n f u) := fun H0 e Q q => hw0 H0 e _ fun H1 e1 Dl hD =>
  lc_it w (Cw H1 f u Dl) ⟨hD, Ex.new hD, upd_same⟩ (fun i H2 _ p => hG H2 ((e.trans e1).trans p.2.1)) (fun i x H2 H3 hi p y => by
    obtain ⟨rfl, px⟩ := hY i H2 x H3 y
    exact ⟨hwp x, cw_turn p (by omega) (ht i x H1 (e.trans e1) hi px) (fun hf => he i x H1 (e.trans e1) hi px hf)⟩)
    (fun H2 p => q Dl H2 (fresh_back e1 p.1) (e1.trans p.2.1) p.2.2)
theorem given_all (n : Nat) (u : Nat → V) : given n (fun _ => true) u = (List.range n).map u := by
  unfold given
  rw [List.filter_eq_self.mpr (fun _ _ => rfl)]
/-- .. without a test -/
theorem el_lcAll {J : It} {n : Nat} {G : Hp → Prop} {Y : Nat → Hp → V → Hp → Prop} {wi : TI} {Px : Nat → V → Prop} {j : Nat} {vs : List Nat} (w : Walk J n G Y)
    (hw0 : ∀ H0, Ex H H0 → ∀ R : It → Hp → Prop, (∀ H1, Ex H0 H1 → R J H1) → wi σ H0 R) (hG : ∀ H1, Ex H H1 → G H1) (hY : ∀ i H x H', Y i H x H' → H' = H ∧ Px i x)
    (u : Nat → V) (hn : n ≤ 40000) (hwp : ∀ x, wipe ((wipe σ vs).set j (some x)) vs = wipe σ vs) (he : ∀ i x H1, Ex H H1 → i < n → Px i x → Ev te ((wipe σ vs).set j (some x)) H1 (u i)) :
    EvL (tLc wi (gName j) tYes te vs) σ H ((List.range n).map u) := by
  have h := el_lcIt w hw0 hG hY (fun _ => true) u hn hwp (fun _ _ _ _ _ _ => et_yes) (fun i x H1 e hi px _ => he i x H1 e hi px)
  rw [given_all] at h
  exact h
theorem w_str {z : Str} (h : Ev te σ H (.str z)) : ∀ H0, Ex H H0 → ∀ R : It → Hp → Prop, (∀ H1, Ex H0 H1 → R (Its z) H1) → iStr te σ H0 R := fun H0 e R r => h H0 e _ fun H1 e1 => ⟨z, rfl, r H1 e1⟩
theorem w_tup {a : Addr} {xs : List V} (h : Ev te σ H (.ref a)) (hx : SqT K H a xs) : ∀ H0, Ex H H0 → ∀ R : It → Hp → Prop, (∀ H1, Ex H0 H1 → R (Itt K a) H1) → iTup K te σ H0 R := fun H0 e R r => h H0 e _ fun H1 e1 => ⟨a, rfl, ⟨xs, ex_t (e.trans e1) hx⟩, r H1 e1⟩
theorem w_rng {ta : TA} {n : Nat} (h : EvA ta σ H [vi n]) (hn : n ≤ 40000) : ∀ H0, Ex H H0 → ∀ R : It → Hp → Prop, (∀ H1, Ex H0 H1 → R (Itr 0 n) H1) → iRng1 ta σ H0 R := fun H0 e R r => h H0 e _ fun H1 e1 => ⟨n, rfl, by omega, by omega, r H1 e1⟩
/-- over a tuple, a value for each item -/
theorem el_lcT {a : Addr} {xs : List V} {tl : TE} {j : Nat} {vs : List Nat} (h : Ev tl σ H (.ref a)) (hx : SqT K H a xs) (u : Nat → V) (hn : xs.length ≤ 40000) (hwp : ∀ x, wipe ((wipe σ vs).set j (some x)) vs = wipe σ vs)
    (he : ∀ i x H1, Ex H H1 → xs[i]? = some x → Ev te ((wipe σ vs).set j (some x)) H1 (u i)) : EvL (tLc (iTup K tl) (gName j) tYes te vs) σ H ((List.range xs.length).map u) :=
  el_lcAll walk_tup (w_tup h hx) (fun H1 e => ex_t e hx) (Px := fun i x => xs[i]? = some x) (fun i H x H' y => y) u hn hwp (fun i x H1 e _ px => he i x H1 e px)
theorem el_lcS {z : Str} {tl : TE} {j : Nat} {vs : List Nat} (h : Ev tl σ H (.str z)) (u : Nat → V) (hn : z.cps.size ≤ 40000) (hwp : ∀ x, wipe ((wipe σ vs).set j (some x)) vs = wipe σ vs)
    (he : ∀ i c H1, Ex H H1 → z.cps[i]? = some c → Ev te ((wipe σ vs).set j (some (.str ⟨#[c]⟩))) H1 (u i)) : EvL (tLc (iStr tl) (gName j) tYes te vs) σ H ((List.range z.cps.size).map u) :=
  el_lcAll walk_str (w_str h) (fun _ _ => trivial) (Px := fun i x => ∃ c, z.cps[i]? = some c ∧ x = .str ⟨#[c]⟩) (fun i H x H' y => y) u hn hwp (fun i x H1 e _ ⟨c, hc, hx⟩ => by subst hx; exact he i c H1 e hc)
/-! ### loops that give pairs -/
theorem walk_enumT {a : Addr} {xs : List V} : Walk (IteT K a) xs.length (fun H => SqT K H a xs) (YPair (fun i => some (vi i)) (fun i => xs[i]?)) := by
  refine ⟨fun i H hi q => ⟨xs, xs[i], q, List.getElem?_eq_getElem hi⟩, fun H q => ⟨xs, q, Nat.le_refl _⟩, fun i H v H' _ q y => ?_⟩
  obtain ⟨T, x, h1, h2, h3, h4⟩ := y
  exact ⟨T, vi i, x, h1, h2, h3, rfl, h4 xs q⟩
theorem q_enumT {a : Addr} {xs : List V} {ta : TA} {j1 j2 : Nat} (h : EvA ta σ H [.ref a]) (hx : SqT K H a xs) (Pv : Nat → L2.St → Hp → Prop) (h0 : ∀ H1, Ex H H1 → Pv 0 σ H1) (hl : ∀ i σ' H', i ≤ xs.length → Pv i σ' H' → SqT K H' a xs)
    (hs : ∀ i x σ' H' H'', xs[i]? = some x → Pv i σ' H' → Ex H' H'' → tu { D with nx := Pv (i + 1), ct := Pv (i + 1), bk := tz D } ((σ'.set j1 (some (vi i))).set j2 (some x)) H'') (hd : ∀ σ' H', Pv xs.length σ' H' → tz D σ' H') :
    tSeq (tFor (iEnumT K ta) (gTup K 2 (gCons (gName j1) (gCons (gName j2) gNil))) tu) tz D σ H :=
  h H (Ex.refl H) _ fun H1 e => ⟨a, xs, rfl, ex_t e hx, for_it (D := { D with nx := tz D }) walk_enumT Pv (h0 H1 e) hl (fun i v σ' H2 H3 hi p y => by
    obtain ⟨T, x1, x2, rfl, nT, rfl, e1, e2⟩ := y
    cases e1
    exact ⟨T, _, rfl, st_of upd_same, rfl, _, _, rfl, _, _, rfl, rfl, hs i x2 σ' H2 _ e2 p (Ex.new nT)⟩) hd⟩
theorem s_enumT {a : Addr} {xs : List V} {ta : TA} {j1 j2 : Nat} (h : EvA ta σ H [.ref a]) (hx : SqT K H a xs) (Pv : Nat → L2.St → Hp → Prop) (h0 : ∀ H1, Ex H H1 → Pv 0 σ H1) (hl : ∀ i σ' H', i ≤ xs.length → Pv i σ' H' → SqT K H' a xs)
    (hs : ∀ i x σ' H' H'', xs[i]? = some x → Pv i σ' H' → Ex H' H'' → tu { D with nx := Pv (i + 1), ct := Pv (i + 1), bk := D.nx } ((σ'.set j1 (some (vi i))).set j2 (some x)) H'') (hd : ∀ σ' H', Pv xs.length σ' H' → D.nx σ' H') :
    tFor (iEnumT K ta) (gTup K 2 (gCons (gName j1) (gCons (gName j2) gNil))) tu D σ H :=
  h H (Ex.refl H) _ fun H1 e => ⟨a, xs, rfl, ex_t e hx, for_it walk_enumT Pv (h0 H1 e) hl (fun i v σ' H2 H3 hi p y => by
    obtain ⟨T, x1, x2, rfl, nT, rfl, e1, e2⟩ := y
    cases e1
    exact ⟨T, _, rfl, st_of upd_same, rfl, _, _, rfl, _, _, rfl, rfl, hs i x2 σ' H2 _ e2 p (Ex.new nT)⟩) hd⟩
/-- enumerate of a list -/
theorem q_enumL {a : Addr} {xs : List V} {ta : TA} {j1 j2 : Nat} (h : EvA ta σ H [.ref a]) (hx : SqL K H a xs) (Pv : Nat → L2.St → Hp → Prop) (h0 : ∀ H1, Ex H H1 → Pv 0 σ H1) (hl : ∀ i σ' H', i ≤ xs.length → Pv i σ' H' → SqL K H' a xs)
    (hs : ∀ i x σ' H' H'', xs[i]? = some x → Pv i σ' H' → Ex H' H'' → tu { D with nx := Pv (i + 1), ct := Pv (i + 1), bk := tz D } ((σ'.set j1 (some (vi i))).set j2 (some x)) H'') (hd : ∀ σ' H', Pv xs.length σ' H' → tz D σ' H') :
    tSeq (tFor (iEnum K ta) (gTup K 2 (gCons (gName j1) (gCons (gName j2) gNil))) tu) tz D σ H :=
  h H (Ex.refl H) _ fun H1 e => ⟨a, xs, rfl, ex_l e hx, for_it (D := { D with nx := tz D }) walk_enum Pv (h0 H1 e) hl (fun i v σ' H2 H3 hi p y => by
    obtain ⟨T, x1, x2, rfl, nT, rfl, e1, e2⟩ := y
    cases e1
    exact ⟨T, _, rfl, st_of upd_same, rfl, _, _, rfl, _, _, rfl, rfl, hs i x2 σ' H2 _ e2 p (Ex.new nT)⟩) hd⟩
end
end Dw
end
section
/-! comprehensions of two fors; new tuples of lists; lists made and changed -/
namespace Dw
open PySem PySem.Spec PyProof.Rows L2 Evl
section
variable {K : PySem.W.Frag} {σ : L2.St} {H H' : Hp} {ta tb te : TE} {t : TT} {x y z v : V} {P : V → Hp → Prop} {D : Ends} {tu tz : TS} {g : TG}
theorem el_lc2T {a b : Addr} {xs ys : List V} {tl tl1 : TE} {j j1 : Nat} {vs vs1 : List Nat} (h : Ev tl σ H (.ref a)) (hx : SqT K H a xs) (h1 : ∀ x H1, Ex H H1 → Ev tl1 ((wipe σ vs).set j (some x)) H1 (.ref b)) (hy : SqT K H b ys) (u : Nat → Nat → V)
    (hn : xs.length ≤ 100) (hm : ys.length ≤ 100) (hw : ∀ x, wipe ((wipe σ vs).set j (some x)) vs = wipe σ vs) (hw1 : ∀ x y, wipe ((wipe ((wipe σ vs).set j (some x)) vs1).set j1 (some y)) vs1 = wipe ((wipe σ vs).set j (some x)) vs1)
    (he : ∀ i x k y H1, Ex H H1 → xs[i]? = some x → ys[k]? = some y → Ev te ((wipe ((wipe σ vs).set j (some x)) vs1).set j1 (some y)) H1 (u i k)) :
    EvL (tLc2 (iTup K tl) (gName j) tYes (iTup K tl1) (gName j1) tYes te vs vs1) σ H ((List.range xs.length).flatMap fun i => (List.range ys.length).map (u i)) := by
  intro H0 e Q q
  refine w_tup h hx H0 e _ fun H1 e1 Dl nD => ?_
  have e01 : Ex H H1 := e.trans e1
  let outer : Nat → List V := fun i => (List.range i).flatMap fun i => (List.range ys.length).map (u i)
  have lenO : ∀ i, (outer i).length = i * ys.length := by
    intro i
    induction i with
    | zero => show (0 : Nat) = 0 * ys.length; rw [Nat.zero_mul]
    | succ i ih =>
      show ((List.range (i + 1)).flatMap _).length = _
      rw [List.range_succ, List.flatMap_append, List.length_append]
      have e3 : ((List.range i).flatMap fun i => (List.range ys.length).map (u i)).length = i * ys.length := ih
      rw [e3, List.flatMap_singleton, List.length_map, List.length_range, Nat.add_mul, Nat.one_mul]
  refine ⟨fun i m H' => m = xs.length - i ∧ i ≤ xs.length ∧ Ex H1 H' ∧ H' Dl = some (.lst (outer i)), ⟨_, rfl, Nat.zero_le _, Ex.new nD, upd_same⟩, ?_⟩
  rintro i m H2 ⟨rfl, hi, e2, hD⟩
  by_cases hlt : i < xs.length
  · refine .inr ⟨⟨xs, xs[i], ex_t (e01.trans e2) hx, List.getElem?_eq_getElem hlt⟩, fun H' => Ex H1 H' ∧ H' Dl = some (.lst (outer (i + 1))), fun H' ⟨p1, p2⟩ => ⟨_, by omega, rfl, hlt, p1, p2⟩, fun x H3 yl => ?_⟩
    obtain ⟨rfl, hxi⟩ := yl
    have hxi' := hxi xs (ex_t (e01.trans e2) hx)
    refine ⟨hw x, et_yes H3 (Ex.refl _) _ fun H4 e4 => ?_⟩
    refine iteT ?_
    have e14 : Ex H1 H4 := e2.trans e4
    refine w_tup (h1 x H4 (e01.trans e14)) (ex_t (e01.trans e14) hy) H4 (Ex.refl _) _ fun H5 e5 => ?_
    have e15 : Ex H1 H5 := e14.trans e5
    have hD5 : H5 Dl = some (.lst (outer i)) := e5 _ _ (e4 _ _ hD)
    refine ⟨fun k m H' => m = ys.length - k ∧ k ≤ ys.length ∧ Ex H1 H' ∧ H' Dl = some (.lst (outer i ++ (List.range k).map (u i))), ⟨_, rfl, Nat.zero_le _, e15, by rw [hD5]; show _ = some (HO.lst (outer i ++ [])); rw [List.append_nil]⟩, ?_⟩
    rintro k m H6 ⟨rfl, hk, e6, hD6⟩
    by_cases klt : k < ys.length
    · refine .inr ⟨⟨ys, ys[k], ex_t (e01.trans e6) hy, List.getElem?_eq_getElem klt⟩, fun H' => Ex H1 H' ∧ H' Dl = some (.lst (outer i ++ (List.range (k + 1)).map (u i))), fun H' ⟨p1, p2⟩ => ⟨_, by omega, rfl, klt, p1, p2⟩, fun y H7 yl => ?_⟩
      obtain ⟨rfl, hyk⟩ := yl
      have hyk' := hyk ys (ex_t (e01.trans e6) hy)
      refine ⟨hw1 x y, et_yes H7 (Ex.refl _) _ fun H8 e8 => ?_⟩
      refine iteT ?_
      have e18 : Ex H1 H8 := e6.trans e8
      refine he i x k y H8 (e01.trans e18) hxi' hyk' H8 (Ex.refl _) _ fun H9 e9 => ⟨_, e9 _ _ (e8 _ _ hD6), ?_, (e18.trans e9).mut nD, ?_⟩
      · rw [List.length_append, lenO, List.length_map, List.length_range]
        have b1 : i * ys.length ≤ 100 * 100 := Nat.mul_le_mul (by omega) hm
        exact sz_lt (by omega)
      · rw [upd_same, List.range_succ, List.map_append, List.append_assoc]
        rfl
    · have ek : k = ys.length := by omega
      subst ek
      refine .inl ⟨⟨ys, ex_t (e01.trans e6) hy, Nat.le_refl _⟩, e6, ?_⟩
      rw [hD6]
      show _ = some (HO.lst ((List.range (i + 1)).flatMap fun i => (List.range ys.length).map (u i)))
      rw [List.range_succ, List.flatMap_append, List.flatMap_singleton]
  · have ei : i = xs.length := by omega
    subst ei
    exact .inl ⟨⟨xs, ex_t (e01.trans e2) hx, Nat.le_refl _⟩, q Dl H2 (fresh_back e1 nD) (e1.trans e2) hD⟩
/-- tuple(a new list) -/
def rTupOf (K : PySem.W.Frag) : List V → Hp → VK → Prop := fun xs H Q => ∃ p ys, xs = [.ref p] ∧ ((SqL K H p ys ∧ ∀ l, H l = none → Q (.ref l) (upd H l (.tup ys))) ∨ (SqT K H p ys ∧ Q (.ref p) H))
theorem eu_tupN {xs : List V} (h : EvL te σ H xs) : EvU (tCB (rTupOf K) (tCons te tNil)) σ H xs := fun H1 e Q q =>
  h H1 e _ fun p H2 _ e2 hp => ⟨p, xs, rfl, .inl ⟨sq_of hp, fun l nl => q l _ (fresh_back e2 nl) (e2.trans (Ex.new nl)) upd_same⟩⟩
/-- tuple(a list that stands) -/
theorem eu_tupL {xs : List V} {p : Addr} (h : Ev te σ H (.ref p)) (hp : SqL K H p xs) : EvU (tCB (rTupOf K) (tCons te tNil)) σ H xs := fun H1 e Q q =>
  h H1 e _ fun H2 e2 => ⟨p, xs, rfl, .inl ⟨ex_l (e.trans e2) hp, fun l nl => q l _ (fresh_back e2 nl) (e2.trans (Ex.new nl)) upd_same⟩⟩
theorem ep_nats {xs : List V} {ns : List Nat} (h : EvU te σ H xs) (e : xs = ns.map vi) : EvP te σ H (fun v H' => Nats K H' v ns) := fun H1 e1 Q q =>
  h H1 e1 Q fun p H2 _ e2 hp => q (.ref p) H2 e2 ⟨p, rfl, by rw [← e]; exact st_of hp⟩
/-- [x] * n -/
theorem el_rep {xs : List V} {n : Nat} (ha : EvL ta σ H xs) (hb : Ev tb σ H (vi n)) (hz : xs.length * n ≤ 100000) (hn : n ≤ 100000) : EvL (tOp rRep ta tb) σ H (List.replicate n xs).flatten := fun H1 e Q q =>
  ha H1 e _ fun p H2 np e2 hp => hb H2 (e.trans e2) _ fun H3 e3 => ⟨p, (n : Int), xs, rfl, rfl, e3 _ _ hp, by omega, by omega, by rw [Int.toNat_natCast]; exact sz_of hz, fun l nl => by
    rw [Int.toNat_natCast]
    exact q l _ (fresh_back (e2.trans e3) nl) ((e2.trans e3).trans (Ex.new nl)) upd_same⟩
theorem rep1 (n : Nat) (v : V) : (List.replicate n [v]).flatten = List.replicate n v := by
  induction n with
  | zero => rfl
  | succ n ih => rw [List.replicate_succ, List.flatten_cons, ih, List.replicate_succ]; rfl
end
end Dw
end
section
/-! zip of two tuples; tuples of values by what holds of them -/
namespace Dw
open PySem PySem.Spec PyProof.Rows L2 Evl RZ
section
variable {K : PySem.W.Frag} {σ : L2.St} {H H' : Hp} {ta tb te : TE} {t : TT} {x y z v : V} {P : V → Hp → Prop} {D : Ends} {tu tz : TS} {g : TG}
theorem walk_zipT {a b : Addr} {xs ys : List V} (hl : xs.length = ys.length) : Walk (ItzT K a b) xs.length (fun H => SqT K H a xs ∧ SqT K H b ys) (YPair (fun i => xs[i]?) (fun i => ys[i]?)) := by
  refine ⟨fun i H hi q => ⟨xs, ys, xs[i], ys[i]'(by rw [← hl]; exact hi), q.1, q.2, List.getElem?_eq_getElem hi, List.getElem?_eq_getElem (by rw [← hl]; exact hi)⟩, fun H q => ⟨xs, ys, q.1, q.2, .inl (Nat.le_refl _)⟩, fun i H v H' _ q y => ?_⟩
  obtain ⟨T, x1, x2, h1, h2, h3, h4, h5⟩ := y
  exact ⟨T, x1, x2, h1, h2, h3, h4 xs q.1, h5 ys q.2⟩
theorem q_zipT {a b : Addr} {xs ys : List V} {ta : TA} (h : EvA ta σ H [.ref a, .ref b]) (hx : SqT K H a xs) (hy : SqT K H b ys) (hl : xs.length = ys.length) (Pv : Nat → L2.St → Hp → Prop) (h0 : ∀ H1, Ex H H1 → Pv 0 σ H1) (hk : ∀ i σ' H', i ≤ xs.length → Pv i σ' H' → SqT K H' a xs ∧ SqT K H' b ys)
    (hs : ∀ i x y T σ' H', xs[i]? = some x → ys[i]? = some y → Pv i σ' H' → H' T = none → g (.ref T) σ' (upd H' T (.tup [x, y])) fun σ2 H2 => tu { D with nx := Pv (i + 1), ct := Pv (i + 1), bk := tz D } σ2 H2) (hd : ∀ σ' H', Pv xs.length σ' H' → tz D σ' H') :
    tSeq (tFor (iZipA K ta) g tu) tz D σ H :=
  h H (Ex.refl H) _ fun H1 e => ⟨a, b, xs, ys, rfl, .inr ⟨ex_t e hx, ex_t e hy, for_it (D := { D with nx := tz D }) (walk_zipT hl) Pv (h0 H1 e) hk (fun i v σ' H2 H3 hi p y => by
    obtain ⟨T, x1, x2, rfl, nT, rfl, e1, e2⟩ := y
    exact hs i x1 x2 T σ' H2 e1 e2 p nT) hd⟩⟩
end
end Dw
end
section
/-! a new tuple told with its own object (so that its methods may be called); tuple.index of ints -/
namespace Dw
open PySem PySem.Spec PyProof.Rows L2 Evl
/-! readings opened by one step -/
section
variable {σ : L2.St} {H : Hp} {ta tb te : TE} {D : Ends} {g : TG}
theorem do_cons {tr : TA} {Q : List V → Hp → Prop} (h : ta σ H fun x H1 => tr σ H1 fun xs H2 => Q (x :: xs) H2) : tCons ta tr σ H Q := h
theorem do_nil {Q : List V → Hp → Prop} (h : Q [] H) : tNil σ H Q := h
theorem do_op {r : R2} {Q : VK} (h : ta σ H fun x H1 => tb σ H1 fun y H2 => r x y H2 Q) : tOp r ta tb σ H Q := h
theorem do_tup {t : TA} {Q : VK} (h : t σ H fun xs H1 => xs.length ≤ sizeLine ∧ ∀ p, H1 p = none → Q (.ref p) (upd H1 p (.tup xs))) : tTup t σ H Q := h
theorem do_lst {t : TA} {Q : VK} (h : t σ H fun xs H1 => xs.length ≤ sizeLine ∧ ∀ p, H1 p = none → Q (.ref p) (upd H1 p (.lst xs))) : tLst t σ H Q := h
theorem do_cb {r : List V → Hp → VK → Prop} {t : TA} {Q : VK} (h : t σ H fun vs H1 => r vs H1 Q) : tCB r t σ H Q := h
theorem do_test {Q : Bool → Hp → Prop} (h : te σ H fun x H' => ∃ k, x = .bl k ∧ Q k H') : tTest te σ H Q := h
theorem do_ret (h : te σ H D.rt) : tRet te D σ H := h
theorem do_asg (h : te σ H fun x H1 => g x σ H1 D.nx) : tAsg te g D σ H := h
theorem do_seq {t u : TS} (h : t { D with nx := u D } σ H) : tSeq t u D σ H := h
theorem do_if {c : TT} {t u : TS} (h : c σ H fun b H1 => if b = true then t D σ H1 else u D σ H1) : tIfS c t u D σ H := h
theorem do_ev {v : V} {Q : VK} (h : Ev te σ H v) (k : ∀ H1, Ex H H1 → Q v H1) : te σ H Q := h H (Ex.refl H) Q k
theorem do_evL {xs : List V} {Q : VK} (h : EvL te σ H xs) (k : ∀ p H1, H p = none → Ex H H1 → H1 p = some (.lst xs) → Q (.ref p) H1) : te σ H Q := h H (Ex.refl H) Q k
theorem do_evU {xs : List V} {Q : VK} (h : EvU te σ H xs) (k : ∀ p H1, H p = none → Ex H H1 → H1 p = some (.tup xs) → Q (.ref p) H1) : te σ H Q := h H (Ex.refl H) Q k
theorem do_evP {P : V → Hp → Prop} {Q : VK} (h : EvP te σ H P) (k : ∀ v H1, Ex H H1 → P v H1 → Q v H1) : te σ H Q := h H (Ex.refl H) Q k
end
section
variable {X : Cx}
def rTupF (K : PySem.W.Frag) : List V → Hp → VK → Prop := fun xs H Q => ∃ p ys, xs = [.ref p] ∧ SqL K H p ys ∧ ∀ l o, H l = none → o.dict = none → Q (.ref l) (upd H l (.frz o (.tup ys)))
theorem call_tupF : CallR X (.type "tuple") (rTupF X.K) := by
  intro pins s σ H xs us Q I r h
  obtain ⟨p, ys, e, isL, q⟩ := h
  subst e
  obtain ⟨u, hu, ru⟩ := vals1 r
  subst hu
  cases (show u = Value.ref p from ru)
  obtain ⟨its, rel, at_, small⟩ := I.list isL
  have many : its.toArray.size ≤ sizeLine := by
    rw [List.size_toArray, ← rel.length]
    exact small
  refine call_tuple_list at_.isList (fun h2 keep => ?_) many
  have J : Inv X pins σ H { s with heap := h2 } := I.kept (t' := s.toks) keep
  let ob : Obj := { cls := .type "tuple", data := .seq its.toArray }
  have got : (h2.push ob).get? h2.objs.size = some ob := Heap.get?_push_size _ rfl
  have okN : ObjOk X.prog X.w (upd H h2.objs.size (.frz ob (.tup ys))) (h2.push ob) h2.objs.size (.frz ob (.tup ys)) := ⟨got, small, its, rel, ob, got, rfl, _, rfl⟩
  have J2 := J.laid (t' := s.toks) (h' := h2.push ob) (fun b o e => Heap.get?_push_of_some _ e) (Nat.le_refl h2.objs.size) okN
  exact ⟨.ref h2.objs.size, _, J2, rfl, q _ ob (J.hok.fresh (Nat.le_refl _)) rfl⟩
end
end Dw
end
section
/-! data of tracked things: what repr and == want of it -/
namespace Dw
open PySem PySem.Spec PyProof.Rows L2 Evl
/-- small data: depth at most k, weight at most W -/
structure Gd (k W : Nat) (d : PyData) : Prop where
  lay : d.canLay0 = true
  dep : d.depth ≤ k
  wgt : d.weight ≤ W
  its : d.intsShort 13 = true
  sho : d.showable = true
theorem Gd.mono {k W k' W' : Nat} {d : PyData} (h : Gd k W d) (a : k ≤ k') (b : W ≤ W') : Gd k' W' d := ⟨h.lay, Nat.le_trans h.dep a, Nat.le_trans h.wgt b, h.its, h.sho⟩
theorem log_low {n : Nat} (h : n ≤ 1000) : n.log2 ≤ 9 := by
  by_cases z : n = 0
  · subst z
    decide
  · exact Nat.le_of_lt_succ ((Nat.log2_lt z).mpr (by have e : 2 ^ 10 = 1024 := by decide
                                                     omega))
theorem gd_int {n : Nat} (h : n ≤ 1000) : Gd 0 10 (.int (n : Int)) := by
  have l := log_low h
  refine ⟨by rw [PyData.canLay0], by rw [PyData.depth]; exact Nat.le_refl _, ?_, ?_, ?_⟩
  · rw [PyData.weight, Int.natAbs_natCast]
    split <;> omega
  · rw [PyData.intsShort]
    exact decide_eq_true (PyData.shown_int_le2 (by omega) (by omega))
  · rw [PyData.showable, Int.natAbs_natCast]
    exact decide_eq_true (by omega)
theorem gd_str {z : Str} (h : ∀ c ∈ z.cps.toList, c < 0x110000) (l : z.cps.size ≤ 100) : Gd 0 100 (.str z) := by
  refine ⟨?_, by rw [PyData.depth]; exact Nat.le_refl _, by rw [PyData.weight]; exact l, by rw [PyData.intsShort], by rw [PyData.showable]⟩
  rw [PyData.canLay0]
  show z.cps.all (· < 0x110000) = true
  rw [Array.all_eq_true]
  intro i hi
  exact decide_eq_true (h _ (by rw [Array.mem_toList_iff]; exact Array.getElem_mem hi))
theorem gd_all {k W : Nat} : ∀ {ds : List PyData}, (∀ d ∈ ds, Gd k W d) → PyData.canLayAll0 ds = true ∧ PyData.depthAll ds ≤ k ∧ PyData.weightAll ds ≤ ds.length * (W + 1) ∧ PyData.intsShortAll 13 ds = true ∧ PyData.showableAll ds = true
  | [], _ => ⟨by rw [PyData.canLayAll0], by rw [PyData.depthAll]; exact Nat.zero_le _, by rw [PyData.weightAll]; exact Nat.zero_le _, by rw [PyData.intsShortAll], by rw [PyData.showableAll]⟩
  | d :: ds, h => by
    obtain ⟨a, b, c, e, f⟩ := gd_all (ds := ds) fun x hx => h x (List.mem_cons_of_mem _ hx)
    have g := h d (List.mem_cons_self ..)
    refine ⟨by rw [PyData.canLayAll0, g.lay, a]; rfl, by rw [PyData.depthAll]; exact Nat.max_le.mpr ⟨g.dep, b⟩, ?_, by rw [PyData.intsShortAll, g.its, e]; rfl, by rw [PyData.showableAll, g.sho, f]; rfl⟩
    have w := g.wgt
    rw [PyData.weightAll, List.length_cons, Nat.succ_mul]
    omega
theorem gd_tup {k W L : Nat} {ds : List PyData} (h : ∀ d ∈ ds, Gd k W d) (l : ds.length ≤ L) : Gd (k + 1) (L * (W + 1)) (.tuple ds) := by
  obtain ⟨a, b, c, e, f⟩ := gd_all h
  exact ⟨by rw [PyData.canLay0]; exact a, by rw [PyData.depth]; omega, by rw [PyData.weight]; exact Nat.le_trans c (Nat.mul_le_mul_right _ l), by rw [PyData.intsShort]; exact e, by rw [PyData.showable]; exact f⟩
theorem gd_lst {k W L : Nat} {ds : List PyData} (h : ∀ d ∈ ds, Gd k W d) (l : ds.length ≤ L) : Gd (k + 1) (L * (W + 1)) (.list ds) := by
  obtain ⟨a, b, c, e, f⟩ := gd_all h
  exact ⟨by rw [PyData.canLay0]; exact a, by rw [PyData.depth]; omega, by rw [PyData.weight]; exact Nat.le_trans c (Nat.mul_le_mul_right _ l), by rw [PyData.intsShort]; exact e, by rw [PyData.showable]; exact f⟩
theorem Gd.len {k W : Nat} {d : PyData} (h : Gd k W d) (a : k ≤ 60) (b : W ≤ 1000000) : d.shown.length ≤ sizeLine := by
  have w := h.wgt
  have dp := h.dep
  have l0 : d.layable0 = true := by
    show (d.canLay0 && decide (d.depth ≤ 64) && decide (d.weight ≤ 2 ^ 20)) = true
    have e : (2 : Nat) ^ 20 = 1048576 := by decide
    rw [h.lay, decide_eq_true (show d.depth ≤ 64 by omega), decide_eq_true (show d.weight ≤ 2 ^ 20 by omega)]
    rfl
  have z := shown_le13 l0 h.its
  rw [sizeLine_eq]
  omega
theorem Gd.shaped {k W : Nat} {d : PyData} (h : Gd k W d) (a : k ≤ 60) : SeqAt.shaped d = true := by
  have dp := h.dep
  show (d.canLay0 && decide (d.depth ≤ 64)) = true
  rw [h.lay, decide_eq_true (show d.depth ≤ 64 by omega)]
  rfl
/-! things of the hand layer as data -/
section
variable {K : PySem.W.Frag} {H : Hp}
def dN (ns : List Nat) : PyData := .tuple (ns.map fun n => .int ((n : Nat) : Int))
theorem dps_nats : ∀ ns : List Nat, DpAll K H (ns.map vi) (ns.map fun n => .int ((n : Nat) : Int))
  | [] => .nil
  | n :: ns => .cons (.int _) (dps_nats ns)
theorem Nats.dp {v : V} {ns : List Nat} (h : Nats K H v ns) : Dp K H v (dN ns) := by
  obtain ⟨a, e, s⟩ := h
  subst e
  exact .tup s (dps_nats ns)
theorem dps_paired {β : Type} {R : V → β → Prop} {f : β → PyData} (h : ∀ v b, R v b → Dp K H v (f b)) : ∀ {vs : List V} {bs : List β}, Paired R vs bs → DpAll K H vs (bs.map f)
  | [], [], .nil => .nil
  | _ :: _, _ :: _, .cons r p => .cons (h _ _ r) (dps_paired h p)
def dM (n : Nat) (ts : List (List Nat)) : PyData := .tuple [.int (n : Int), .tuple (ts.map dN)]
theorem Mdl.dp {v : V} {n : Nat} {ts : List (List Nat)} (h : Mdl K H v n ts) : Dp K H v (dM n ts) := by
  obtain ⟨a, u, e, s, b, vs, e2, s2, p⟩ := h
  subst e e2
  exact .tup s (.cons (.int _) (.cons (.tup s2 (dps_paired (fun _ _ z => Nats.dp z) p)) .nil))
def dS (sg : List (Str × Nat)) : PyData := .tuple (sg.map fun p => .tuple [.str p.1, .int ((p.2 : Nat) : Int)])
theorem Sig.dp {v : V} {sg : List (Str × Nat)} (h : Sig K H v sg) : Dp K H v (dS sg) := by
  obtain ⟨a, vs, e, s, p⟩ := h
  subst e
  refine .tup s (dps_paired (fun v q z => ?_) p)
  obtain ⟨b, e, s⟩ := z
  subst e
  exact .tup s (.cons (.str _) (.cons (.int _) .nil))
theorem gd_nats {ns : List Nat} (h : ∀ n ∈ ns, n ≤ 1000) (l : ns.length ≤ 36) : Gd 1 396 (dN ns) := by
  refine gd_tup (k := 0) (W := 10) (L := 36) (fun d hd => ?_) (by rw [List.length_map]; exact l)
  obtain ⟨n, hn, e⟩ := List.mem_map.mp hd
  subst e
  exact gd_int (h n hn)
theorem gd_mdl {n : Nat} {ts : List (List Nat)} (hn : n ≤ 1000) (h : ∀ t ∈ ts, (∀ k ∈ t, k ≤ 1000) ∧ t.length ≤ 36) (l : ts.length ≤ 4) : Gd 3 3178 (dM n ts) := by
  refine gd_tup (k := 2) (W := 1588) (L := 2) (fun d hd => ?_) (Nat.le_refl 2)
  rcases List.mem_cons.mp hd with e | hd
  · subst e
    exact (gd_int hn).mono (by decide) (by decide)
  · rw [List.mem_singleton.mp hd]
    refine gd_tup (k := 1) (W := 396) (L := 4) (fun d hd => ?_) (by rw [List.length_map]; exact l)
    obtain ⟨t, ht, e⟩ := List.mem_map.mp hd
    subst e
    exact gd_nats (h t ht).1 (h t ht).2
theorem gd_sig {sg : List (Str × Nat)} (h : ∀ p ∈ sg, (∀ c ∈ p.1.cps.toList, c < 0x110000) ∧ p.1.cps.size ≤ 100 ∧ p.2 ≤ 1000) (l : sg.length ≤ 4) : Gd 2 812 (dS sg) := by
  refine gd_tup (k := 1) (W := 202) (L := 4) (fun d hd => ?_) (by rw [List.length_map]; exact l)
  obtain ⟨p, hp, e⟩ := List.mem_map.mp hd
  subst e
  obtain ⟨a, b, c⟩ := h p hp
  refine gd_tup (k := 0) (W := 100) (L := 2) (fun d hd => ?_) (Nat.le_refl 2)
  rcases List.mem_cons.mp hd with e | hd
  · subst e
    exact gd_str a b
  · rw [List.mem_singleton.mp hd]
    exact (gd_int c).mono (by decide) (by decide)
/-- x != y of the same data -/
theorem rv_neD {x y : V} {d : PyData} {k W : Nat} (hx : ∀ H1, Ex H H1 → Dp K H1 x d) (hy : ∀ H1, Ex H H1 → Dp K H1 y d) (h : Gd k W d) (a : k ≤ 60) : RV (rNeD K) x y H (.bl false) := fun H1 e Q q =>
  ⟨d, d, hx H1 e, hy H1 e, h.shaped a, h.shaped a, by rw [SeqAt.eqv_refl d h.lay]; exact q H1 (Ex.refl H1)⟩
end
end Dw
end
section
/-! the mathematics of own orders, over plain lists of natural numbers -/
namespace M25
open M20
/-! begins of orders: the numbers called so far, in the order of their new names -/
/-- a begin of length L -/
structure Bg (n L : Nat) (b : List Nat) : Prop where
  len : b.length = L
  low : ∀ x ∈ b, x < n
  nd : b.Nodup
def free (n : Nat) (b : List Nat) : List Nat := (List.range n).filter fun k => !decide (k ∈ b)
theorem mem_free {n k : Nat} {b : List Nat} : k ∈ free n b ↔ k < n ∧ k ∉ b := by
  unfold free
  rw [List.mem_filter, List.mem_range]
  constructor
  · rintro ⟨a, c⟩
    exact ⟨a, fun z => by rw [decide_eq_true z] at c; cases c⟩
  · rintro ⟨a, c⟩
    exact ⟨a, by rw [decide_eq_false c]; rfl⟩
def ext1 (n : Nat) (bs : List (List Nat)) : List (List Nat) := bs.flatMap fun b => (free n b).map fun k => b ++ [k]
def allc (n : Nat) : Nat → List (List Nat) → List (List Nat)
  | 0, bs => bs
  | k + 1, bs => allc n k (ext1 n bs)
/-- rows of begins, all of one length -/
structure Bgs (n L : Nat) (bs : List (List Nat)) : Prop where
  each : ∀ b ∈ bs, Bg n L b
  nd : bs.Nodup
theorem Bg.le {n L : Nat} {b : List Nat} (h : Bg n L b) : L ≤ n := by
  have := len_le b (List.range n) h.nd fun x hx => List.mem_range.mpr (h.low x hx)
  rw [h.len, List.length_range] at this
  exact this
theorem Bg.snoc {n L k : Nat} {b : List Nat} (h : Bg n L b) (hk : k < n) (m : k ∉ b) : Bg n (L + 1) (b ++ [k]) := ⟨by rw [List.length_append, h.len]; rfl, fun x hx => by
  rcases List.mem_append.mp hx with z | z
  · exact h.low x z
  · rw [List.mem_singleton.mp z]; exact hk, by
  rw [List.nodup_append]
  refine ⟨h.nd, List.nodup_cons.mpr ⟨(by intro z; cases z), List.nodup_nil⟩, fun a ha c hc e => ?_⟩
  rw [List.mem_singleton.mp hc] at e
  exact m (e ▸ ha)⟩
theorem snoc_inj {b c : List Nat} {x y : Nat} (h : b ++ [x] = c ++ [y]) : b = c ∧ x = y := by
  have := List.append_inj' h rfl
  exact ⟨this.1, by simpa using this.2⟩
theorem free_nd (n : Nat) (b : List Nat) : (free n b).Nodup := List.Pairwise.filter _ List.nodup_range
theorem ext1_mem {n : Nat} {bs : List (List Nat)} {c : List Nat} : c ∈ ext1 n bs ↔ ∃ b ∈ bs, ∃ k, k < n ∧ k ∉ b ∧ c = b ++ [k] := by
  unfold ext1
  rw [List.mem_flatMap]
  constructor
  · rintro ⟨b, hb, hc⟩
    obtain ⟨k, hk, rfl⟩ := List.mem_map.mp hc
    obtain ⟨a, d⟩ := mem_free.mp hk
    exact ⟨b, hb, k, a, d, rfl⟩
  · rintro ⟨b, hb, k, a, d, rfl⟩
    exact ⟨b, hb, List.mem_map.mpr ⟨k, mem_free.mpr ⟨a, d⟩, rfl⟩⟩
theorem ext1_nd {n : Nat} : ∀ {bs : List (List Nat)}, bs.Nodup → (ext1 n bs).Nodup
  | [], _ => List.nodup_nil
  | b :: bs, h => by
    rw [List.nodup_cons] at h
    show ((free n b).map (fun k => b ++ [k]) ++ ext1 n bs).Nodup
    rw [List.nodup_append]
    refine ⟨?_, ext1_nd h.2, fun x hx y hy e => ?_⟩
    · rw [List.nodup_iff_pairwise_ne, List.pairwise_map]
      exact (List.nodup_iff_pairwise_ne.mp (free_nd n b)).imp fun z e => z (snoc_inj e).2
    · obtain ⟨k, _, rfl⟩ := List.mem_map.mp hx
      obtain ⟨c, hc, j, _, _, rfl⟩ := ext1_mem.mp hy
      exact h.1 ((snoc_inj e).1 ▸ hc)
theorem Bgs.ext1 {n L : Nat} {bs : List (List Nat)} (h : Bgs n L bs) : Bgs n (L + 1) (ext1 n bs) := ⟨fun c hc => by
  obtain ⟨b, hb, k, a, d, rfl⟩ := ext1_mem.mp hc
  exact (h.each b hb).snoc a d, ext1_nd h.nd⟩
theorem Bgs.allc {n : Nat} : ∀ {k L : Nat} {bs : List (List Nat)}, Bgs n L bs → Bgs n (L + k) (allc n k bs)
  | 0, _, _, h => h
  | k + 1, L, bs, h => by
    have := Bgs.allc (k := k) h.ext1
    rw [Nat.add_assoc, Nat.add_comm 1 k] at this
    exact this
/-! orders told by what is called 0, 1, .. -/
theorem bg_ord {n : Nat} {q : List Nat} : Bg n n q ↔ Ord n q := by
  constructor
  · intro h
    refine ⟨h.len, fun k hk => h.low _ (List.mem_iff_getElem?.mpr ⟨k, g_eq (by rw [h.len]; exact hk)⟩), fun j k hj hk e => ?_⟩
    have a := g_eq (l := q) (k := j) (by rw [h.len]; exact hj)
    have b := g_eq (l := q) (k := k) (by rw [h.len]; exact hk)
    rw [e, ← b] at a
    have hj' : j < q.length := by rw [h.len]; exact hj
    have hk' : k < q.length := by rw [h.len]; exact hk
    rw [List.getElem?_eq_getElem hj', List.getElem?_eq_getElem hk'] at a
    have p := List.pairwise_iff_getElem.mp (List.nodup_iff_pairwise_ne.mp h.nd)
    rcases Nat.lt_trichotomy j k with z | z | z
    · exact absurd (Option.some.inj a) (p j k hj' hk' z)
    · exact z
    · exact absurd (Option.some.inj a).symm (p k j hk' hj' z)
  · intro h
    refine ⟨h.len, fun x hx => ?_, ?_⟩
    · obtain ⟨i, hi, e⟩ := List.mem_iff_getElem.mp hx
      have a := g_eq hi
      rw [List.getElem?_eq_getElem hi, e] at a
      rw [Option.some.inj a]
      exact h.low i (by rw [← h.len]; exact hi)
    · rw [List.nodup_iff_pairwise_ne, List.pairwise_iff_getElem]
      intro i j hi hj hij e
      have a := g_eq hi
      have b := g_eq hj
      rw [List.getElem?_eq_getElem hi, e] at a
      rw [List.getElem?_eq_getElem hj] at b
      have := h.inj i j (by rw [← h.len]; exact hi) (by rw [← h.len]; exact hj) ((Option.some.inj a).symm.trans (Option.some.inj b))
      omega
/-- an order goes on from one of the begins -/
def On (bs : List (List Nat)) (q : List Nat) : Prop := ∃ b ∈ bs, b <+: q
theorem on_ext1 {n L : Nat} {bs : List (List Nat)} {q : List Nat} (h : Bgs n L bs) (lt : L < n) (hq : Bg n n q) : On (ext1 n bs) q ↔ On bs q := by
  constructor
  · rintro ⟨c, hc, p⟩
    obtain ⟨b, hb, k, _, _, rfl⟩ := ext1_mem.mp hc
    exact ⟨b, hb, (List.prefix_append b [k]).trans p⟩
  · rintro ⟨b, hb, r, e⟩
    cases r with
    | nil =>
      rw [List.append_nil] at e
      have a := (h.each b hb).len
      have c := hq.len
      rw [← e] at c
      omega
    | cons k r =>
      have nd := hq.nd
      rw [← e] at nd
      have m : k ∉ b := fun z => (List.nodup_append.mp nd).2.2 k z k (List.mem_cons_self ..) rfl
      have lo : k < n := hq.low k (by rw [← e]; exact List.mem_append_right _ (List.mem_cons_self ..))
      exact ⟨b ++ [k], ext1_mem.mpr ⟨b, hb, k, lo, m, rfl⟩, r, by rw [List.append_assoc]; exact e⟩
theorem on_allc {n : Nat} {q : List Nat} (hq : Bg n n q) : ∀ {k L : Nat} {bs : List (List Nat)}, Bgs n L bs → L + k ≤ n → (On (allc n k bs) q ↔ On bs q)
  | 0, _, _, _, _ => Iff.rfl
  | k + 1, L, bs, h, le => (on_allc hq h.ext1 (by omega)).trans (on_ext1 h (by omega) hq)
theorem prefix_full {n : Nat} {b q : List Nat} (h : Bg n n b) (hq : Bg n n q) (p : b <+: q) : b = q := by
  obtain ⟨r, e⟩ := p
  have a := h.len
  have c := hq.len
  rw [← e, List.length_append] at c
  cases r with
  | nil =>
    rw [List.append_nil] at e
    exact e
  | cons k r =>
    rw [List.length_cons] at c
    omega
theorem on_full {n : Nat} {bs : List (List Nat)} {q : List Nat} (h : Bgs n n bs) (hq : Bg n n q) : On bs q ↔ q ∈ bs := ⟨fun ⟨b, hb, p⟩ => prefix_full (h.each b hb) hq p ▸ hb, fun m => ⟨q, m, List.prefix_rfl⟩⟩
/-! the worth of a cell -/
/-- the place of old numbers -/
def at_ (n : Nat) (b args : List Nat) : Nat := args.foldl (fun a k => a * n + g b k) 0
def old (n : Nat) (t args b : List Nat) : Nat := g t (at_ n b args)
def told (n : Nat) (t args b : List Nat) : Nat := if old n t args b ∈ b then b.idxOf (old n t args b) else b.length
def kept (n : Nat) (t args b : List Nat) : List Nat := if old n t args b ∈ b then b else b ++ [old n t args b]
def val (n : Nat) (t args q : List Nat) : Nat := q.idxOf (old n t args q)
/-- the least that is told, the first ahead -/
def best (n : Nat) (t args : List Nat) : List (List Nat) → Nat → Nat
  | [], m => m
  | b :: bs, m => best n t args bs (min m (told n t args b))
def lst (n : Nat) (t args : List Nat) (bs : List (List Nat)) : List (List Nat) := (bs.filter fun b => decide (told n t args b = best n t args bs n)).map (kept n t args)
end M25
end
section
/-! the mathematics of own orders: what is the same for all, tables of cells, the orders that lead to the least -/
namespace M25
open M20
/-! ### what two orders leave, all leave -/
def sw (n i : Nat) : List Nat := (List.range n).map fun k => if k = i then i + 1 else if k = i + 1 then i else k
def rot (n : Nat) : List Nat := (List.range n).map fun k => if k + 1 = n then 0 else k + 1
def same (n p : Nat) (t : List Nat) : Bool := decide (n = 1) || (decide (ren n p (sw n 0) t = t) && decide (ren n p (rot n) t = t))
/-! ### rows of numbers -/
def rows (n : Nat) : Nat → List (List Nat)
  | 0 => [[]]
  | p + 1 => (rows n p).flatMap fun r => (List.range n).map fun k => r ++ [k]
theorem rows_of {n : Nat} : ∀ {p : Nat} {r : List Nat}, r ∈ rows n p → r.length = p ∧ ∀ k ∈ r, k < n
  | 0, r, h => by
    rw [List.mem_singleton.mp h]
    exact ⟨rfl, fun k z => by cases z⟩
  | p + 1, r, h => by
    obtain ⟨s, hs, h2⟩ := List.mem_flatMap.mp h
    obtain ⟨k, hk, rfl⟩ := List.mem_map.mp h2
    obtain ⟨a, b⟩ := rows_of hs
    refine ⟨by rw [List.length_append, a]; rfl, fun j hj => ?_⟩
    rcases List.mem_append.mp hj with z | z
    · exact b j z
    · rw [List.mem_singleton.mp z]
      exact List.mem_range.mp hk
theorem flatr {α : Type} (m : Nat) (hm : 0 < m) (f : Nat → Nat → α) : ∀ n, ((List.range n).flatMap fun i => (List.range m).map (f i)) = (List.range (n * m)).map fun s => f (s / m) (s % m)
  | 0 => by rw [Nat.zero_mul]; rfl
  | n + 1 => by
    rw [List.range_succ, List.flatMap_append, flatr m hm f n, List.flatMap_singleton, Nat.add_mul, Nat.one_mul, List.range_add, List.map_append, List.map_map]
    congr 1
    apply List.map_congr_left
    intro k hk
    have hk' := List.mem_range.mp hk
    show f n k = f ((n * m + k) / m) ((n * m + k) % m)
    rw [Nat.add_comm (n * m) k, Nat.add_mul_div_right _ _ hm, Nat.div_eq_of_lt hk', Nat.zero_add, Nat.add_mul_mod_self_right, Nat.mod_eq_of_lt hk']
theorem rows_1 (n : Nat) : rows n 1 = (List.range n).map fun k => [k] := by
  show ([[]] : List (List Nat)).flatMap _ = _
  rw [List.flatMap_singleton]
  rfl
theorem rows_2 {n : Nat} (h : 0 < n) : rows n 2 = (List.range (n * n)).map fun s => [s / n, s % n] := by
  show (rows n 1).flatMap _ = _
  rw [rows_1, List.flatMap_map]
  exact flatr n h (fun i j => [i, j]) n
/-! ### the steps -/
def need (args : List Nat) : Nat := args.foldr (fun k m => max (k + 1) m) 0
def ln (bs : List (List Nat)) : Nat := (bs.headD []).length
def grow (n many : Nat) (bs : List (List Nat)) : List (List Nat) := allc n (many - ln bs) bs
def stepV (n : Nat) (t : List Nat) (bs : List (List Nat)) (args : List Nat) : Nat := best n t args (grow n (need args) bs) n
def stepB (n : Nat) (t : List Nat) (bs : List (List Nat)) (args : List Nat) : List (List Nat) := lst n t args (grow n (need args) bs)
/-- begins as they go on -/
def Good (n : Nat) (bs : List (List Nat)) : Prop := ∃ L, L ≤ n ∧ Bgs n L bs ∧ bs ≠ []
theorem ln_is {n L : Nat} {bs : List (List Nat)} (h : Bgs n L bs) (ne : bs ≠ []) : ln bs = L := by
  cases bs with
  | nil => exact absurd rfl ne
  | cons b r => exact (h.each b (List.mem_cons_self ..)).len
theorem Good.bgs {n : Nat} {bs : List (List Nat)} (h : Good n bs) : Bgs n (ln bs) bs := by
  obtain ⟨L, a, b, c⟩ := h
  rw [ln_is b c]
  exact b
theorem Good.ln_le {n : Nat} {bs : List (List Nat)} (h : Good n bs) : ln bs ≤ n := by
  obtain ⟨L, a, b, c⟩ := h
  rw [ln_is b c]
  exact a
theorem Good.ne {n : Nat} {bs : List (List Nat)} (h : Good n bs) : bs ≠ [] := let ⟨_, _, _, c⟩ := h; c
def rowV (n : Nat) (t : List Nat) : List (List Nat) → List (List Nat) → List Nat
  | _, [] => []
  | bs, a :: as => stepV n t bs a :: rowV n t (stepB n t bs a) as
def rowB (n : Nat) (t : List Nat) : List (List Nat) → List (List Nat) → List (List Nat)
  | bs, [] => bs
  | bs, a :: as => rowB n t (stepB n t bs a) as
/-! ### tables, one behind the other -/
abbrev PT := Nat × List Nat
def tabB (n : Nat) : List PT → List (List Nat) → List (List Nat)
  | [], bs => bs
  | x :: r, bs => if same n x.1 x.2 = true then tabB n r bs else tabB n r (rowB n x.2 bs (rows n x.1))
def tabV (n : Nat) : List PT → List (List Nat) → List (List Nat)
  | [], _ => []
  | x :: r, bs => if same n x.1 x.2 = true then x.2 :: tabV n r bs else rowV n x.2 bs (rows n x.1) :: tabV n r (rowB n x.2 bs (rows n x.1))
def led_all (n : Nat) (l : List PT) (o : List Nat) : List (List Nat) := l.map fun x => ren n x.1 o x.2
theorem start_good (n : Nat) : Good n [[]] := ⟨0, Nat.zero_le _, ⟨fun b hb => by
  rw [List.mem_singleton.mp hb]
  exact ⟨rfl, fun x z => (by cases z), List.nodup_nil⟩, List.nodup_cons.mpr ⟨(by intro z; cases z), List.nodup_nil⟩⟩, fun z => by cases z⟩
theorem start_on (q : List Nat) : On [[]] q := ⟨[], List.mem_singleton.mpr rfl, q, rfl⟩
/-- the orders that lead to the least, told by what is called 0, 1, .. -/
def fin (n : Nat) (l : List PT) : List (List Nat) := grow n n (tabB n l [[]])
def least (n : Nat) (l : List PT) : List (List Nat) := tabV n l [[]]
end M25
end
section
/-! own orders: a group, its number, its lots -/
namespace M25
open M20
def orders (n : Nat) (l : List PT) : List (List Nat) := (fin n l).map bk
def first (os : List (List Nat)) : List Nat := os.headD []
def own (n : Nat) (l : List PT) : List (List Nat) := (orders n l).map fun a => cmp a (bk (first (orders n l)))
/-! ### their number -/
def fact : Nat → Nat
  | 0 => 1
  | k + 1 => fact k * (k + 1)
theorem free_len {n L : Nat} {b : List Nat} (h : Bg n L b) : (free n b).length = n - L := by
  have nd : (free n b ++ b).Nodup := List.nodup_append.mpr ⟨free_nd n b, h.nd, fun x hx y hy e => (mem_free.mp hx).2 (e ▸ hy)⟩
  have a := len_le (free n b ++ b) (List.range n) nd fun x hx => List.mem_range.mpr (by
    rcases List.mem_append.mp hx with z | z
    · exact (mem_free.mp z).1
    · exact h.low x z)
  have c := len_le (List.range n) (free n b ++ b) List.nodup_range fun x hx => by
    by_cases z : x ∈ b
    · exact List.mem_append_right _ z
    · exact List.mem_append_left _ (mem_free.mpr ⟨List.mem_range.mp hx, z⟩)
  rw [List.length_append, List.length_range, h.len] at a c
  omega
theorem ext1_len {n L : Nat} : ∀ {bs : List (List Nat)}, (∀ b ∈ bs, Bg n L b) → (ext1 n bs).length = bs.length * (n - L)
  | [], _ => by simp [ext1]
  | b :: bs, h => by
    show ((free n b).map (fun k => b ++ [k]) ++ ext1 n bs).length = _
    rw [List.length_append, List.length_map, free_len (h b (List.mem_cons_self ..)), ext1_len fun c hc => h c (List.mem_cons_of_mem _ hc), List.length_cons, Nat.add_mul, Nat.one_mul, Nat.add_comm]
theorem allc_len {n : Nat} : ∀ {k L : Nat} {bs : List (List Nat)}, Bgs n L bs → L + k = n → (allc n k bs).length = bs.length * fact k
  | 0, _, bs, _, _ => (Nat.mul_one _).symm
  | k + 1, L, bs, h, e => by
    show (allc n k (ext1 n bs)).length = _
    rw [allc_len h.ext1 (by omega), ext1_len h.each, show n - L = k + 1 by omega, fact, Nat.mul_assoc, Nat.mul_comm (k + 1)]
def all_ (n : Nat) : List (List Nat) := allc n n [[]]
theorem all_bgs (n : Nat) : Bgs n n (all_ n) := by
  have := (start_good n).bgs.allc (k := n)
  rw [show ln [[]] = 0 from rfl, Nat.zero_add] at this
  exact this
theorem all_len (n : Nat) : (all_ n).length = fact n := by
  have := allc_len (k := n) (start_good n).bgs (by rw [show ln [[]] = 0 from rfl, Nat.zero_add])
  rw [show ([[]] : List (List Nat)).length = 1 from rfl, Nat.one_mul] at this
  exact this
theorem all_mem {n : Nat} {a : List Nat} : a ∈ all_ n ↔ Ord n a := by
  constructor
  · exact fun h => bg_ord.mp ((all_bgs n).each a h)
  · intro h
    have hq := bg_ord.mpr h
    exact (on_full (all_bgs n) hq).mp ((on_allc hq (k := n) (start_good n).bgs (by rw [show ln [[]] = 0 from rfl]; omega)).mpr (start_on a))
/-! ### led over by an order -/
/-! ### lots -/
def orb (n : Nat) (os : List (List Nat)) (k : Nat) : List Nat := (List.range n).filter fun j => os.any fun a => decide (g a k = j)
def lots (n : Nat) (os : List (List Nat)) : List (List Nat) := ((List.range n).filter fun k => decide ((orb n os k).headD 0 = k)).map (orb n os)
end M25
end
section
/-! comprehensions whose items are told by what holds of them (new things at each turn) -/
namespace Dw
open PySem PySem.Spec PyProof.Rows L2 Evl
theorem ifT {a b : Prop} (h : a) : if true = true then a else b := h
theorem ifF {a b : Prop} (h : b) : if false = true then a else b := h
/-- a new list, by what holds of its items -/
def EvLP (te : TE) (σ : L2.St) (H : Hp) (R : List V → Hp → Prop) : Prop := ∀ H1, Ex H H1 → ∀ Q : VK, (∀ p ws H2, H1 p = none → Ex H1 H2 → H2 p = some (.lst ws) → R ws H2 → Q (.ref p) H2) → te σ H1 Q
/-- all that is no list stays -/
def EN (H H' : Hp) : Prop := ∀ a u, (∀ xs, u ≠ .lst xs) → H a = some u → H' a = some u
theorem EN.refl {H : Hp} : EN H H := fun _ _ _ h => h
theorem EN.trans {H H1 H2 : Hp} (a : EN H H1) (b : EN H1 H2) : EN H H2 := fun x u n h => b x u n (a x u n h)
theorem EN.of {H H' : Hp} (e : Evl.Ex H H') : EN H H' := fun a u _ h => e a u h
theorem EN.upd {H H' : Hp} {l : Addr} {xs ys : List V} (e : EN H H') (h : H' l = some (.lst xs)) : EN H (upd H' l (.lst ys)) := fun a u n q => by
  have q2 := e a u n q
  have ne : a ≠ l := fun z => by
    rw [z, h] at q2
    exact n xs (Option.some.inj q2).symm
  rw [upd_ne ne]
  exact q2
theorem EN.et {K : PySem.W.Frag} {H H' : Hp} (e : EN H H') : ET K H H' := fun a xs q => by
  rcases q with (q | ⟨o, q⟩) | q
  · exact .inl (.inl (e _ _ (fun _ z => by cases z) q))
  · exact .inl (.inr ⟨o, e _ _ (fun _ z => by cases z) q⟩)
  · exact .inr q
/-- what holds of a thing is told by what is no list -/
def StbB {β : Type} (B : V → β → Hp → Prop) : Prop := ∀ v b H H', EN H H' → B v b H → B v b H'
section
variable {K : PySem.W.Frag} {σ : L2.St} {H H' : Hp} {ta tb te : TE} {t : TT} {x y z v : V} {P : V → Hp → Prop} {D : Ends} {tu tz : TS} {g : TG} {R : List V → Hp → Prop}
theorem EvLP.mono (e : Ex H H') (h : EvLP te σ H R) : EvLP te σ H' R := fun H1 a Q q => h H1 (e.trans a) Q q
theorem EvLP.imp {R' : List V → Hp → Prop} (h : EvLP te σ H R) (i : ∀ ws H', Ex H H' → R ws H' → R' ws H') : EvLP te σ H R' := fun H1 e Q q => h H1 e Q fun p ws H2 np e2 hp r => q p ws H2 np e2 hp (i ws H2 (e.trans e2) r)
theorem s_asgLP {i : Nat} (h : EvLP te σ H R) (k : ∀ p ws H1, H p = none → Ex H H1 → H1 p = some (.lst ws) → R ws H1 → D.nx (σ.set i (some (.ref p))) H1) : tAsg te (gName i) D σ H := h H (Ex.refl H) _ k
theorem q_asgLP {i : Nat} (h : EvLP te σ H R) (k : ∀ p ws H1, H p = none → Ex H H1 → H1 p = some (.lst ws) → R ws H1 → tz D (σ.set i (some (.ref p))) H1) : tSeq (tAsg te (gName i)) tz D σ H := s_asgLP (D := { D with nx := tz D }) h k
theorem paired_snoc' {α β : Type} {R : α → β → Prop} {x : α} {y : β} (r : R x y) {xs : List α} {ys : List β} (h : Paired R xs ys) : Paired R (xs ++ [x]) (ys ++ [y]) := Dw.paired_snoc (R := R) r h
theorem paired_at {α β : Type} {R : α → β → Prop} : ∀ {xs : List α} {ys : List β} {i : Nat} {x : α}, Paired R xs ys → xs[i]? = some x → ∃ y, ys[i]? = some y ∧ R x y
  | _, _, _, _, .nil, h => by simp at h
  | _, _, 0, _, .cons a _, h => by
    have e := Option.some.inj h
    subst e
    exact ⟨_, rfl, a⟩
  | _, _, i + 1, _, .cons _ b, h => by
    obtain ⟨y, e, r⟩ := paired_at (i := i) b h
    exact ⟨y, e, r⟩
theorem paired_app {α β : Type} {R : α → β → Prop} {xs xs2 : List α} {ys ys2 : List β} (h : Paired R xs ys) (h2 : Paired R xs2 ys2) : Paired R (xs ++ xs2) (ys ++ ys2) := by
  induction h with
  | nil => exact h2
  | cons a r ih => exact .cons a ih
theorem paired_map {α β γ : Type} {R : α → β → Prop} {S : α → γ → Prop} {f : β → γ} (h : ∀ a b, R a b → S a (f b)) : ∀ {xs : List α} {ys : List β}, Paired R xs ys → Paired S xs (ys.map f)
  | _, _, .nil => .nil
  | _, _, .cons a b => .cons (h _ _ a) (paired_map h b)
theorem filt_step {n : Nat} {f : Nat → Bool} : (List.range (n + 1)).filter f = (List.range n).filter f ++ if f n = true then [n] else [] := by
  rw [List.range_succ, List.filter_append]
  congr 1
  cases h : f n
  · rw [List.filter_cons_of_neg (by rw [h]; decide), List.filter_nil]; rfl
  · rw [List.filter_cons_of_pos h, List.filter_nil]; rfl
theorem filt_len (n : Nat) (f : Nat → Bool) : ((List.range n).filter f).length ≤ n := by
  have := List.length_filter_le f (List.range n)
  rw [List.length_range] at this
  exact this
/-- a comprehension by what its items keep -/
theorem elp_lc {J : It} {n : Nat} {G : Hp → Prop} {Y : Nat → Hp → V → Hp → Prop} {wi : TI} {tt : TT} {vs : List Nat} (w : Walk J n G Y) (hw0 : ∀ H0, Ex H H0 → ∀ R : It → Hp → Prop, (∀ H1, Ex H0 H1 → R J H1) → wi σ H0 R) (hG : ∀ H1, Ex H H1 → G H1) (hn : n ≤ 40000)
    (f : Nat → Bool) (B : V → Nat → Hp → Prop) (hB : StbB B)
    (hs : ∀ i x H1 H2, i < n → Ex H H1 → Y i H1 x H2 → Ex H1 H2 ∧ ∀ Φ : L2.St → Hp → Prop, (∀ σ2, wipe σ2 vs = wipe σ vs → EvT tt σ2 H2 (f i) → (f i = true → EvP te σ2 H2 (fun v H' => B v i H')) → Φ σ2 H2) → g x (wipe σ vs) H2 Φ) :
    EvLP (tLc wi g tt te vs) σ H (fun ws H' => Paired (fun v i => B v i H') ws ((List.range n).filter f)) := by
  intro H0 e0 Q q
  refine hw0 H0 e0 _ fun H1 e1 Dl nD => lc_it w (fun i H' => Ex H1 H' ∧ ∃ ws, H' Dl = some (.lst ws) ∧ Paired (fun v i => B v i H') ws ((List.range i).filter f)) ⟨Ex.new nD, [], upd_same, .nil⟩ (fun i H' _ ⟨e, _⟩ => hG H' ((e0.trans e1).trans e)) (fun i x H2 H3 hi ⟨e2, ws, hD, pw⟩ y => ?_) (fun H2 ⟨e2, ws, hD, pw⟩ => q Dl ws H2 (fresh_back e1 nD) (e1.trans e2) hD pw)
  have e02 := (e0.trans e1).trans e2
  obtain ⟨e3, go⟩ := hs i x H2 H3 hi e02 y
  refine go _ fun σ2 hw ht he => ⟨hw, ht H3 (Ex.refl _) _ fun H4 e4 => ?_⟩
  have e24 := e3.trans e4
  cases hf : f i with
  | true =>
    refine ifT (he hf H4 e4 _ fun v H5 e5 bv => ?_)
    have hD5 := (e24.trans e5) _ _ hD
    have lw : ws.length ≤ i := by rw [paired_len pw]; exact filt_len i f
    refine ⟨ws, hD5, sz_lt (by omega), (e2.trans (e24.trans e5)).mut nD, ws ++ [v], upd_same, ?_⟩
    rw [filt_step, hf, if_pos rfl]
    have et : EN H5 (upd H5 Dl (.lst (ws ++ [v]))) := EN.refl.upd hD5
    have pw2 : Paired (fun z i => B z i (upd H5 Dl (.lst (ws ++ [v])))) ws ((List.range i).filter f) := paired_imp (fun a b r => hB a b _ _ (EN.trans (EN.of (e24.trans e5)) et) r) pw
    exact paired_snoc' (xs := ws) (x := v) (y := i) (hB _ _ _ _ et bv) pw2
  | false =>
    refine ifF ⟨e2.trans e24, ws, e24 _ _ hD, ?_⟩
    rw [filt_step, hf]
    show Paired _ ws ((List.range i).filter f ++ [])
    rw [List.append_nil]
    exact paired_imp (fun a b r => hB a b _ _ (EN.of e24) r) pw
theorem range_all (n : Nat) : (List.range n).filter (fun _ => true) = List.range n := List.filter_eq_self.mpr fun _ _ => rfl
theorem elp_lcR {ta : TA} {n : Nat} {tt : TT} {j : Nat} {vs : List Nat} (h : EvA ta σ H [vi n]) (hn : n ≤ 40000) (f : Nat → Bool) (B : V → Nat → Hp → Prop) (hB : StbB B) (hwp : ∀ x, wipe ((wipe σ vs).set j (some x)) vs = wipe σ vs)
    (hs : ∀ i H1, i < n → Ex H H1 → EvT tt ((wipe σ vs).set j (some (vi i))) H1 (f i) ∧ (f i = true → EvP te ((wipe σ vs).set j (some (vi i))) H1 (fun v H' => B v i H'))) :
    EvLP (tLc (iRng1 ta) (gName j) tt te vs) σ H (fun ws H' => Paired (fun v i => B v i H') ws ((List.range n).filter f)) :=
  elp_lc (walk_range (n := n)) (fun H0 e0 R r => w_rng h hn H0 e0 R r) (fun _ _ => trivial) hn f B hB fun i x H1 H2 hi e y => by
    obtain ⟨rfl, hxi⟩ := y
    have e0 : x = vi i := hxi.trans (by show V.int _ = V.int _; rw [Int.zero_add])
    subst e0
    exact ⟨Ex.refl _, fun Φ k => k _ (hwp _) (hs i _ hi e).1 (hs i _ hi e).2⟩
theorem elp_lcT {a : Addr} {xs : List V} {tl : TE} {tt : TT} {j : Nat} {vs : List Nat} (h : Ev tl σ H (.ref a)) (hx : SqT K H a xs) (hn : xs.length ≤ 40000) (f : Nat → Bool) (B : V → Nat → Hp → Prop) (hB : StbB B) (hwp : ∀ x, wipe ((wipe σ vs).set j (some x)) vs = wipe σ vs)
    (hs : ∀ i x H1, Ex H H1 → xs[i]? = some x → EvT tt ((wipe σ vs).set j (some x)) H1 (f i) ∧ (f i = true → EvP te ((wipe σ vs).set j (some x)) H1 (fun v H' => B v i H'))) :
    EvLP (tLc (iTup K tl) (gName j) tt te vs) σ H (fun ws H' => Paired (fun v i => B v i H') ws ((List.range xs.length).filter f)) :=
  elp_lc (walk_tup (K := K) (a := a) (xs := xs)) (fun H0 e0 R r => w_tup h hx H0 e0 R r) (fun H1 e1 => ex_t e1 hx) hn f B hB fun i x H1 H2 hi e y => by
    obtain ⟨rfl, hxi⟩ := y
    exact ⟨Ex.refl _, fun Φ k => k _ (hwp x) (hs i x _ e hxi).1 (hs i x _ e hxi).2⟩
/-- of two fors: a list, then a range (or what is walked in the like way) -/
theorem elp_lc2 {a : Addr} {xs : List V} {tl : TE} {ta : TA} {m j j1 : Nat} {vs vs1 : List Nat} (h : Ev tl σ H (.ref a)) (hx : SqL K H a xs) (h1 : ∀ x H1, Ex H H1 → EvA ta ((wipe σ vs).set j (some x)) H1 [vi m]) (hn : xs.length ≤ 10000) (hm : m ≤ 9)
    (B : V → Nat × Nat → Hp → Prop) (hB : StbB B) (hw : ∀ x, wipe ((wipe σ vs).set j (some x)) vs = wipe σ vs) (hw1 : ∀ x y, wipe ((wipe ((wipe σ vs).set j (some x)) vs1).set j1 (some y)) vs1 = wipe ((wipe σ vs).set j (some x)) vs1)
    (he : ∀ i x k H1, Ex H H1 → xs[i]? = some x → k < m → EvP te ((wipe ((wipe σ vs).set j (some x)) vs1).set j1 (some (vi k))) H1 (fun v H' => B v (i, k) H')) :
    EvLP (tLc2 (iList K tl) (gName j) tYes (iRng1 ta) (gName j1) tYes te vs vs1) σ H (fun ws H' => Paired (fun v p => B v p H') ws ((List.range xs.length).flatMap fun i => (List.range m).map fun k => (i, k))) := by
  intro H0 e Q q
  refine h H0 e _ fun H1 e1 => ⟨a, rfl, ⟨xs, ex_l (e.trans e1) hx⟩, fun Dl nD => ?_⟩
  have e01 : Ex H H1 := e.trans e1
  let outer : Nat → List (Nat × Nat) := fun i => (List.range i).flatMap fun i => (List.range m).map fun k => (i, k)
  have lenO : ∀ i, (outer i).length = i * m := by
    intro i
    induction i with
    | zero => show (0 : Nat) = 0 * m; rw [Nat.zero_mul]
    | succ i ih =>
      show ((List.range (i + 1)).flatMap _).length = _
      rw [List.range_succ, List.flatMap_append, List.length_append]
      have e3 : ((List.range i).flatMap fun i => (List.range m).map fun k => (i, k)).length = i * m := ih
      rw [e3, List.flatMap_singleton, List.length_map, List.length_range, Nat.add_mul, Nat.one_mul]
  refine ⟨fun i r H' => r = xs.length - i ∧ i ≤ xs.length ∧ Ex H1 H' ∧ ∃ ws, H' Dl = some (.lst ws) ∧ Paired (fun v p => B v p H') ws (outer i), ⟨_, rfl, Nat.zero_le _, Ex.new nD, [], upd_same, .nil⟩, ?_⟩
  rintro i r H2 ⟨rfl, hi, e2, ws, hD, pw⟩
  by_cases hlt : i < xs.length
  · refine .inr ⟨⟨xs, xs[i], ex_l (e01.trans e2) hx, List.getElem?_eq_getElem hlt⟩, fun H' => Ex H1 H' ∧ ∃ ws, H' Dl = some (.lst ws) ∧ Paired (fun v p => B v p H') ws (outer (i + 1)), fun H' ⟨p1, p2⟩ => ⟨_, by omega, rfl, hlt, p1, p2⟩, fun x H3 yl => ?_⟩
    obtain ⟨rfl, hxi⟩ := yl
    have hxi' := hxi xs (ex_l (e01.trans e2) hx)
    refine ⟨hw x, et_yes H3 (Ex.refl _) _ fun H4 e4 => ?_⟩
    refine ifT ?_
    have e14 : Ex H1 H4 := e2.trans e4
    refine w_rng (h1 x H4 (e01.trans e14)) (by omega) H4 (Ex.refl _) _ fun H5 e5 => ?_
    have e15 : Ex H1 H5 := e14.trans e5
    have e35 := e4.trans e5
    refine ⟨fun k r H' => r = m - k ∧ k ≤ m ∧ Ex H1 H' ∧ ∃ ws, H' Dl = some (.lst ws) ∧ Paired (fun v p => B v p H') ws (outer i ++ (List.range k).map fun k => (i, k)), ⟨_, rfl, Nat.zero_le _, e15, ws, e35 _ _ hD, by
      show Paired _ ws (outer i ++ [])
      rw [List.append_nil]
      exact paired_imp (fun a b r => hB a b _ _ (EN.of e35) r) pw⟩, ?_⟩
    rintro k r H6 ⟨rfl, hk, e6, us, hD6, pu⟩
    by_cases klt : k < m
    · refine .inr ⟨(walk_range (n := m)).goes k H6 klt trivial, fun H' => Ex H1 H' ∧ ∃ ws, H' Dl = some (.lst ws) ∧ Paired (fun v p => B v p H') ws (outer i ++ (List.range (k + 1)).map fun k => (i, k)), fun H' ⟨p1, p2⟩ => ⟨_, by omega, rfl, klt, p1, p2⟩, fun y H7 yl => ?_⟩
      obtain ⟨rfl, hy⟩ := (walk_range (n := m)).yields k H6 y H7 klt trivial yl
      have ey : y = vi k := hy.trans (by show V.int _ = V.int _; rw [Int.zero_add])
      subst ey
      refine ⟨hw1 x _, et_yes H7 (Ex.refl _) _ fun H8 e8 => ?_⟩
      refine ifT ?_
      have e18 : Ex H1 H8 := e6.trans e8
      refine he i x k H8 (e01.trans e18) hxi' klt H8 (Ex.refl _) _ fun v H9 e9 bv => ?_
      have hD9 := (e8.trans e9) _ _ hD6
      refine ⟨us, hD9, ?_, (e18.trans e9).mut nD, us ++ [v], upd_same, ?_⟩
      · rw [paired_len pu, List.length_append, lenO, List.length_map, List.length_range]
        have b1 : i * m ≤ 10000 * 9 := Nat.mul_le_mul (by omega) hm
        exact sz_lt (by omega)
      · rw [List.range_succ, List.map_append, ← List.append_assoc]
        have et : EN H9 (upd H9 Dl (.lst (us ++ [v]))) := EN.refl.upd hD9
        have pu2 : Paired (fun z p => B z p (upd H9 Dl (.lst (us ++ [v])))) us (outer i ++ (List.range k).map fun k => (i, k)) := paired_imp (fun a b r => hB a b _ _ (EN.trans (EN.of (e8.trans e9)) et) r) pu
        exact paired_snoc' (xs := us) (x := v) (y := (i, k)) (hB _ _ _ _ et bv) pu2
    · have ek : k = m := by omega
      subst ek
      refine .inl ⟨(walk_range (n := k)).stops H6 trivial, e6, us, hD6, ?_⟩
      have : outer (i + 1) = outer i ++ (List.range k).map fun k => (i, k) := by
        show (List.range (i + 1)).flatMap _ = _
        rw [List.range_succ, List.flatMap_append, List.flatMap_singleton]
      rw [this]
      exact pu
  · have ei : i = xs.length := by omega
    subst ei
    exact .inl ⟨⟨xs, ex_l (e01.trans e2) hx, Nat.le_refl _⟩, q Dl ws H2 (fresh_back e1 nD) (e1.trans e2) hD pw⟩
end
end Dw
end
section
/-! tuples by what they hold: written, joined, cut; equal lists of numbers -/
namespace Dw
open PySem PySem.Spec PyProof.Rows L2 Evl
theorem op_catAK {X : Cx} (K : PySem.W.Frag) (h : X.K = K := by rfl) : OpR X (binaryOp .Add) (rCatA K) := by
  subst h
  exact op_catA
def TV (K : PySem.W.Frag) (H : Hp) (v : V) (xs : List V) : Prop := ∃ a, v = .ref a ∧ SqT K H a xs
section
variable {K : PySem.W.Frag} {σ : L2.St} {H H' : Hp} {ta tb te : TE} {t : TT} {x y z v : V} {P : V → Hp → Prop} {D : Ends} {tu tz : TS} {g : TG}
theorem TV.ex {xs : List V} (e : Ex H H') (h : TV K H v xs) : TV K H' v xs := let ⟨a, q, s⟩ := h; ⟨a, q, ex_t e s⟩
theorem TV.et {xs : List V} (e : ET K H H') (h : TV K H v xs) : TV K H' v xs := let ⟨a, q, s⟩ := h; ⟨a, q, e _ _ s⟩
theorem tv_ev {xs : List V} {a : Addr} (h : Ev te σ H (.ref a)) (s : SqT K H a xs) : EvP te σ H (fun v H' => TV K H' v xs) := ep_ev h fun _ e => ⟨a, rfl, ex_t e s⟩
theorem tv_cat {xs ys : List V} (ha : EvP ta σ H (fun v H' => TV K H' v xs)) (hb : EvP tb σ H (fun v H' => TV K H' v ys)) (hl : xs.length + ys.length ≤ 100000) : EvP (tOp (rCatA K) ta tb) σ H (fun v H' => TV K H' v (xs ++ ys)) := fun H1 e1 Q q =>
  ha H1 e1 _ fun v H2 e2 hv => hb H2 (e1.trans e2) _ fun u H3 e3 hu => by
    obtain ⟨a, rfl, sa⟩ := hv.ex e3
    obtain ⟨b, rfl, sb⟩ := hu
    refine ⟨a, b, xs, ys, rfl, rfl, sa, sb, sz_of hl, fun z => ?_, fun _ z => ?_, fun _ _ p np => ?_⟩
    · subst z
      exact q _ H3 (e2.trans e3) ⟨b, rfl, sb⟩
    · subst z
      rw [List.append_nil] at q
      exact q _ H3 (e2.trans e3) ⟨a, rfl, sa⟩
    · exact q _ _ ((e2.trans e3).trans (Ex.new np)) ⟨p, rfl, st_of upd_same⟩
theorem tv_tup {ta : TA} {xs : List V} (h : EvA ta σ H xs) (l : xs.length ≤ 100000) : EvP (tTup ta) σ H (fun v H' => TV K H' v xs) := fun H1 e1 Q q => eu_tup h l H1 e1 _ fun p H2 np e2 hp => q _ H2 e2 ⟨p, rfl, st_of hp⟩
theorem tv_sl {tl th : TO} {xs : List V} {lo hi : Option Int} (h : EvP te σ H (fun v H' => TV K H' v xs)) (h1 : EvO tl σ H lo) (h2 : EvO th σ H hi) : EvP (tSl (rSlA K) te tl th) σ H (fun v H' => TV K H' v (cutV xs lo hi)) := fun H1 e Q q =>
  h H1 e _ fun v H2 e2 hv => h1 H2 (e.trans e2) _ fun H3 e3 => h2 H3 ((e.trans e2).trans e3) _ fun H4 e4 => by
    obtain ⟨a, rfl, sa⟩ := hv
    have s4 := ex_t (e3.trans e4) sa
    refine ⟨a, xs, rfl, s4, fun ⟨z1, z2⟩ => ?_, fun _ p np => ?_⟩
    · refine q _ H4 ((e2.trans e3).trans e4) ⟨a, rfl, ?_⟩
      unfold cutV
      rw [z1, z2, List.drop_zero, Nat.sub_zero, List.take_length]
      exact s4
    · exact q _ _ (((e2.trans e3).trans e4).trans (Ex.new np)) ⟨p, rfl, st_of upd_same⟩
theorem cut_from' {xs : List V} {k : Nat} : cutV xs (some (k : Int)) none = xs.drop k := by
  unfold cutV
  rw [HT.sIx_none, HT.sIx_nat]
  by_cases h : k ≤ xs.length
  · rw [Nat.min_eq_left h, List.take_of_length_le (by rw [List.length_drop]; exact Nat.le_refl _)]
  · rw [Nat.min_eq_right (by omega), List.drop_length, List.take_nil, List.drop_of_length_le (by omega)]
theorem cut_to' {xs : List V} {k : Nat} : cutV xs none (some (k : Int)) = xs.take k := by
  unfold cutV
  rw [HT.sIx_none, HT.sIx_nat, List.drop_zero, Nat.sub_zero]
  by_cases h : k ≤ xs.length
  · rw [Nat.min_eq_left h]
  · rw [Nat.min_eq_right (by omega), List.take_length, List.take_of_length_le (by omega)]
theorem tv_is {xs ys : List V} (h : EvP te σ H (fun v H' => TV K H' v xs)) (e : xs = ys) : EvP te σ H (fun v H' => TV K H' v ys) := e ▸ h
theorem tv_nats {ns : List Nat} (h : EvP te σ H (fun v H' => TV K H' v (ns.map vi))) : EvP te σ H (fun v H' => Nats K H' v ns) := h
/-! equality of lists of numbers as data -/
theorem eqv_nats : ∀ a b : List Nat, PyData.eqvAll (a.map fun n => .int ((n : Nat) : Int)) (b.map fun n => .int ((n : Nat) : Int)) = decide (a = b)
  | [], [] => by simp [PyData.eqvAll]
  | [], _ :: _ => by simp [PyData.eqvAll]
  | _ :: _, [] => by simp [PyData.eqvAll]
  | x :: a, y :: b => by
    rw [List.map_cons, List.map_cons, PyData.eqvAll, eqv_nats a b, PyData.eqv]
    by_cases h : x = y
    · subst h
      by_cases h2 : a = b
      · subst h2
        simp
      · simp [h2]
    · have : ((x : Nat) : Int) ≠ ((y : Nat) : Int) := fun z => h (Int.ofNat.inj z)
      simp [h, this]
theorem eqv_dN (a b : List Nat) : PyData.eqv (dN a) (dN b) = decide (a = b) := by
  unfold dN
  rw [PyData.eqv]
  exact eqv_nats a b
end
end Dw
namespace Dw
open PySem PySem.Spec PyProof.Rows L2 Evl
section
variable {K : PySem.W.Frag} {σ : L2.St} {H H' : Hp} {ta tb te : TE} {t : TT} {x y z v : V} {P R2 : V → Hp → Prop} {D : Ends} {tu tz : TS} {g : TG} {R : List V → Hp → Prop}
/-- a written pair -/
theorem ep_tup2 (h1 : EvP ta σ H P) (h2 : EvP tb σ H R2) (k1 : ∀ v H H', Ex H H' → P v H → P v H') (k2 : ∀ v H H', Ex H H' → R2 v H → R2 v H') : EvP (tTup (tCons ta (tCons tb tNil))) σ H (fun v H' => ∃ p u w, v = .ref p ∧ SqT K H' p [u, w] ∧ P u H' ∧ R2 w H') := fun H1 e Q q =>
  do_tup (do_cons (h1 H1 e _ fun u H2 e2 hu => do_cons (h2 H2 (e.trans e2) _ fun w H3 e3 hw => do_nil ⟨by show 2 ≤ sizeLine; decide, fun p np => q _ _ ((e2.trans e3).trans (Ex.new np)) ⟨p, u, w, rfl, st_of upd_same, k1 _ _ _ (e3.trans (Ex.new np)) hu, k2 _ _ _ (Ex.new np) hw⟩⟩)))
end
/-- a promise that knows the heap ahead too -/
def spG {α : Type} (pre : α → List V → Hp → Prop) (post : α → Hp → V → Hp → Prop) : Sp := fun vs H Q _ => ∃ a, pre a vs H ∧ ∀ v H', Ex H H' → post a H v H' → Q v H'
theorem ep_callG {α : Type} {pre : α → List V → Hp → Prop} {post : α → Hp → V → Hp → Prop} {σ : L2.St} {H : Hp} {P : V → Hp → Prop} (a : α) {vs : List V} {E : XK} {ta : TA} (h : EvA ta σ H vs) (hp : ∀ H1, Ex H H1 → pre a vs H1) (hv : ∀ H1 v H2, Ex H H1 → Ex H1 H2 → post a H1 v H2 → P v H2) : EvP (tCall (spG pre post) [] E ta) σ H P := fun H1 e Q q =>
  h H1 e _ fun H2 e2 => by
    rw [List.append_nil]
    exact ⟨a, hp H2 (e.trans e2), fun v H3 e3 p => q v H3 (e2.trans e3) (hv H2 v H3 (e.trans e2) e3 p)⟩
section
variable {K : PySem.W.Frag} {σ : L2.St} {H : Hp} {te tl : TE} {D : Ends} {tu tz : TS} {g : TG}
end
theorem ep_callGP {α : Type} {pre : α → List V → Hp → Prop} {post : α → Hp → V → Hp → Prop} {σ : L2.St} {H : Hp} {P : V → Hp → Prop} {R : List V → Hp → Prop} (a : α) {E : XK} {ta : TA} (h : EvAP ta σ H R) (hp : ∀ vs H1, Ex H H1 → R vs H1 → pre a vs H1) (hv : ∀ H1 v H2, Ex H H1 → Ex H1 H2 → post a H1 v H2 → P v H2) : EvP (tCall (spG pre post) [] E ta) σ H P := fun H1 e Q q =>
  h H1 e _ fun vs H2 e2 r => by
    rw [List.append_nil]
    exact ⟨a, hp vs H2 (e.trans e2) r, fun v H3 e3 p => q v H3 (e2.trans e3) (hv H2 v H3 (e.trans e2) e3 p)⟩
end Dw
end
section
/-! dict(a tuple of pairs), the tuple told with its own object -/
namespace Dw
open PySem PySem.Spec PyProof.Rows L2 Evl
section
variable {X : Cx}
end
end Dw
end
section
/-! sets of texts, their table known well enough that they can be walked: add, set(a list), sorted -/
namespace Dw
open PySem PySem.Spec PyProof.Rows L2
/-- the text of an entry -/
def txtOf (e : Int × Value) : Str := match e.2 with | .str x _ => x | _ => Str.empty
def IsTxt (w : World) (e : Int × Value) : Prop := ∃ x tk, e.2 = Value.str x tk ∧ e.1 = hashStr w x
/-- a set at a whose members are the texts ks, each once, in the order in which they came -/
structure TxtSet (w : World) (h : Heap) (a : Addr) (ks : List Str) : Prop where
  ex : ∃ o es ep t, h.get? a = some o ∧ o.ExactSet ∧ o.data = .set es ep t ∧ (∀ e ∈ es.toList, IsTxt w e) ∧ (es.toList.map txtOf).Perm ks ∧ t.fits es.size = true ∧ Ris t.place.toList ∧ (w.params.followText "set-order" = true ∨ t.led = true)
  nd : ks.Nodup
  few : ks.length < scanBound
section
variable {P : Program} {w : World} {A : Around} {E : Value → Shared → Prop} {s : Shared} {a : Addr} {ks : List Str}
theorem TxtSet.at {h h' : Heap} (T : TxtSet w h a ks) (same : ∀ o, h.get? a = some o → h'.get? a = some o) : TxtSet w h' a ks := by
  obtain ⟨o, es, ep, t, at_, rest⟩ := T.ex
  exact ⟨⟨o, es, ep, t, same o at_, rest⟩, T.nd, T.few⟩
end
end Dw
end
section
namespace Dw
open PySem PySem.Spec PyProof.Rows L2
section
variable {P : Program} {w : World} {A : Around} {E : Value → Shared → Prop} {s : Shared}
end
end Dw
end
section
/-! rules over sets of texts: set(a list), sorted(the set) -/
namespace Dw
open PySem PySem.Spec PyProof.Rows L2
section
variable {P : Program} {w : World} {A : Around} {E : Value → Shared → Prop} {s : Shared} {a : Addr} {ks : List Str}
end
section
variable {X : Cx}
end
end Dw
end
section
/-! max of a tuple of numbers -/
namespace Dw
open PySem PySem.Spec PyProof.Rows L2 Evl PySem.W
end Dw
end
section
/-! how many begins there are; names told by a begin -/
namespace M25
open M20
theorem fact_pos : ∀ n, 1 ≤ fact n
  | 0 => Nat.le_refl _
  | n + 1 => by
    show 1 ≤ fact n * (n + 1)
    have := fact_pos n
    exact Nat.le_trans this (Nat.le_mul_of_pos_right _ (Nat.succ_pos n))
theorem fact6 {n : Nat} (h : n ≤ 6) : fact n ≤ 720 := by
  match n, h with
  | 0, _ => decide
  | 1, _ => decide
  | 2, _ => decide
  | 3, _ => decide
  | 4, _ => decide
  | 5, _ => decide
  | 6, _ => decide
theorem sub_len {l m : List (List Nat)} (h1 : l.Nodup) (h : ∀ x ∈ l, x ∈ m) : l.length ≤ m.length := by
  induction l generalizing m with
  | nil => exact Nat.zero_le _
  | cons x l ih =>
    have hx := h x (List.mem_cons_self ..)
    rw [List.nodup_cons] at h1
    have := ih (m := m.erase x) h1.2 fun y hy => (List.mem_erase_of_ne (show y ≠ x from fun e => h1.1 (by rw [← e]; exact hy))).mpr (h y (List.mem_cons_of_mem _ hy))
    rw [List.length_erase_of_mem hx] at this
    have := List.length_pos_of_mem hx
    rw [List.length_cons]
    omega
theorem bgs_few {n L : Nat} {bs : List (List Nat)} (h : Bgs n L bs) (le : L ≤ n) : bs.length ≤ fact n := by
  have a := allc_len h (k := n - L) (by omega)
  have b : Bgs n (L + (n - L)) (allc n (n - L) bs) := h.allc
  rw [show L + (n - L) = n by omega] at b
  have c := sub_len b.nd fun x hx => all_mem.mpr (bg_ord.mp (b.each x hx))
  rw [all_len, a] at c
  exact Nat.le_trans (Nat.le_mul_of_pos_right _ (fact_pos _)) c
theorem Good.few {n : Nat} {bs : List (List Nat)} (h : Good n bs) (n6 : n ≤ 6) : bs.length ≤ 720 := Nat.le_trans (bgs_few h.bgs h.ln_le) (fact6 n6)
def nmOf (b : List Nat) (k : Nat) : Int := if k ∈ b then ((b.idxOf k : Nat) : Int) else -1
def nms (n : Nat) (b : List Nat) : List Int := (List.range n).map (nmOf b)
end M25
end
section
/-! the least worth, begin by begin -/
namespace M25
open M20
theorem g_mem {l : List Nat} {k : Nat} (h : k < l.length) : g l k ∈ l := List.mem_iff_getElem?.mpr ⟨k, g_eq h⟩
theorem pow_small' {n p : Nat} (hn : n ≤ 6) (hp : p ≤ 2) : n ^ p ≤ 36 := by
  match p, hp with
  | 0, _ => simp
  | 1, _ => rw [Nat.pow_one]; omega
  | 2, _ => rw [Nat.pow_two]; exact Nat.mul_le_mul hn hn
end M25
end
section
/-! row by row, table by table, from behind -/
namespace M25
open M20
end M25
end
section
/-! sorted lists: one for the same members -/
namespace M25
open M20
/-- rising numbers, sorted as they are -/
theorem le_one {l m : List Int} (h : l.Perm m) (hl : l.Pairwise (· ≤ ·)) (hm : m.Pairwise (· ≤ ·)) : l = m := by
  induction l generalizing m with
  | nil => exact (List.nil_perm.mp h).symm
  | cons x l ih =>
    cases m with
    | nil => exact absurd h.symm (by simp)
    | cons y m =>
      rw [List.pairwise_cons] at hl hm
      have e : x = y := by
        rcases List.mem_cons.mp (h.mem_iff.mp (List.mem_cons_self ..)) with z | z
        · exact z
        · rcases List.mem_cons.mp (h.mem_iff.mpr (List.mem_cons_self ..)) with z2 | z2
          · exact z2.symm
          · exact Int.le_antisymm (hl.1 y z2) (hm.1 x z)
      subst e
      rw [ih (List.perm_cons x |>.mp h) hl.2 hm.2]
end M25
namespace M25
open M20
end M25
end
section
/-! sets of numbers: set(a list), known well enough that they can be sorted -/
namespace Dw
open PySem PySem.Spec PyProof.Rows L2
/-- a set at a of just the numbers in xs -/
def ISet (w : World) (h : Heap) (a : Addr) (xs : List Int) : Prop := ∃ n, n ≤ xs.length ∧ SetR w h a (fun k => decide (k ∈ xs)) n
theorem ISet.at {w : World} {h h' : Heap} {a : Addr} {xs : List Int} (T : ISet w h a xs) (k : ∀ o, h.get? a = some o → h'.get? a = some o) : ISet w h' a xs := let ⟨n, l, r⟩ := T; ⟨n, l, r.at k⟩
section
variable {P : Program} {w : World} {A : Around} {E : Value → Shared → Prop} {s : Shared}
end
section
variable {X : Cx}
end
end Dw
end
section
/-! sorted(a list of tuples of numbers), of any length: as mergeSort lays it by the order of lists -/
namespace Dw
open PySem PySem.Spec PyProof.Rows L2 Evl PySem.W
end Dw
end
section
/-! readings of sorted(..) and set(..) over new lists -/
namespace Dw
open PySem PySem.Spec PyProof.Rows L2 Evl M25
section
variable {K : PySem.W.Frag} {σ : L2.St} {H H' : Hp} {te : TE} {w : World}
theorem inV_vi (k : Nat) : ∀ l : List Nat, inV (vi k) (l.map vi) = decide (k ∈ l)
  | [] => rfl
  | x :: l => by
    have ih := inV_vi k l
    unfold inV at ih ⊢
    rw [List.map_cons, List.any_cons, ih]
    by_cases h : k = x
    · subst h
      have : eqV (vi k) (vi k) = true := by simp [eqV]
      rw [this, decide_eq_true (List.mem_cons_self ..)]
      rfl
    · have : eqV (vi x) (vi k) = false := by
        simp [eqV]
        omega
      rw [this, Bool.false_or]
      exact decide_eq_decide.mpr ⟨fun z => List.mem_cons_of_mem _ z, fun z => (List.mem_cons.mp z).resolve_left h⟩
theorem flat_vi (l : List Nat) : (l.map vi).all flatV = true := by
  rw [List.all_eq_true]
  intro x hx
  obtain ⟨k, _, rfl⟩ := List.mem_map.mp hx
  rfl
end
end Dw
theorem L2.Room.units65 {k : Nat} {A : PySem.Around} (r : L2.Room k A) : A.units + 65 < PySem.cLine := by
  have := r.un
  omega
namespace Dw
open PySem PySem.Spec PyProof.Rows L2 Evl M25
section
variable {K : PySem.W.Frag} {σ : L2.St} {H H' : Hp} {te ta tb : TE} {w : World}
def dL (ns : List Nat) : PyData := .list (ns.map fun n => .int ((n : Nat) : Int))
end
end Dw
end
section
/-! sorted(a list of things that read as data), of any length -/
namespace Dw
open PySem PySem.Spec PyProof.Rows L2 Evl PySem.W M25
end Dw
end
section
/-! a tuple turned about, t[::-1]; a list made longer by a tuple -/
namespace Dw
open PySem PySem.Spec PyProof.Rows L2
section
variable {P : Program} {w : World} {A : Around} {E : Value → Shared → Prop} {s : Shared}
end
section
variable {X : Cx}
end
end Dw
end
section
/-! dict(zip(a, b)), a and b lists or tuples -/
namespace Dw
open PySem PySem.Spec PyProof.Rows L2 Evl
section
variable {prog : Program} {w : World} {A : Around} {E : Value → Shared → Prop} {s : Shared} {z TI TO T p q : Addr} {F G : List Addr} {n m i : Nat} {P R : Nat → Value → Prop} {U V : Nat → Heap → Prop} {f : Bool} {oT : Obj}
end
/-- a list or a tuple, and its walker -/
def SqO (t : Bool) (h : Heap) (l : Addr) (xs : Array Value) : Prop := if t = true then h.IsTuple l xs else h.IsList l xs
def SqI (t : Bool) (it l : Addr) (xs : Array Value) (i : Nat) (h : Heap) : Prop := if t = true then h.IsTupleIter it l i ∧ h.IsTuple l xs else h.IsListIter it l i ∧ h.IsList l xs
theorem SqI.keep {t : Bool} {it l : Addr} {xs : Array Value} {i : Nat} {h h' : Heap} (x : SqI t it l xs i h) (k : ∀ b, b = it ∨ b = l → ∀ o, h.get? b = some o → h'.get? b = some o) : SqI t it l xs i h' := by
  cases t
  · exact And.intro (x.1.at fun o e => k it (.inl rfl) o e) (x.2.at fun o e => k l (.inr rfl) o e)
  · exact And.intro (x.1.at fun o e => k it (.inl rfl) o e) (x.2.at fun o e => k l (.inr rfl) o e)
/-! the expression -/
theorem SqO.lt {t : Bool} {h : Heap} {l : Addr} {xs : Array Value} (x : SqO t h l xs) : l < h.objs.size := by
  cases t
  · obtain ⟨o, e, _⟩ := (show h.IsList l xs from x)
    exact Heap.lt_size e
  · obtain ⟨o, e, _⟩ := (show h.IsTuple l xs from x)
    exact Heap.lt_size e
abbrev itOf (t : Bool) (l : Addr) : Obj := { cls := .type (if t = true then "tuple_iterator" else "list_iterator"), data := .fields #[.ref l, .int 0 0] }
theorem SqI.start {t : Bool} {h h' : Heap} {it l : Addr} {xs : Array Value} (x : SqO t h l xs) (k : ∀ b o, h.get? b = some o → h'.get? b = some o) (e : h'.get? it = some (itOf t l)) : SqI t it l xs 0 h' := by
  cases t
  · exact And.intro ⟨_, e, rfl, rfl⟩ (Heap.IsList.at (show h.IsList l xs from x) fun o q => k l o q)
  · exact And.intro ⟨_, e, rfl, rfl⟩ (Heap.IsTuple.at (show h.IsTuple l xs from x) fun o q => k l o q)
end Dw
end
section
/-! promises of new lists; comprehensions over a zip; tuple.index of texts; wider sums -/
namespace Dw
open PySem PySem.Spec PyProof.Rows L2 Evl RZ
section
variable {K : PySem.W.Frag} {σ : L2.St} {H H' : Hp} {ta tb te : TE} {t : TT} {x y z v : V} {D : Ends} {tu tz : TS} {g : TG}
theorem ev_subM {a b : Nat} (ha : Ev ta σ H (vi a)) (hb : Ev tb σ H (vi b)) (l : b ≤ a) : Ev (tOp (rI0 fun i j => .int (i - j)) ta tb) σ H (vi (a - b)) := ev_is (ev_op ha hb rv_I0) (by show V.int ((a : Int) - (b : Int)) = V.int ((a - b : Nat) : Int); congr 1; omega)
theorem ev_mulM {a b : Nat} (ha : Ev ta σ H (vi a)) (hb : Ev tb σ H (vi b)) (la : a ≤ 100000) : Ev (tOp (rI CMul fun i j => .int (i * j)) ta tb) σ H (vi (a * b)) := ev_is (ev_op ha hb (rv_I (.inl ⟨by omega, by omega⟩))) (by show V.int ((a : Int) * (b : Int)) = V.int ((a * b : Nat) : Int); rw [Int.natCast_mul])
theorem ev_addM {a b : Nat} (ha : Ev ta σ H (vi a)) (hb : Ev tb σ H (vi b)) : Ev (tOp (rI0 fun i j => .int (i + j)) ta tb) σ H (vi (a + b)) := ev_is (ev_op ha hb rv_I0) (by show V.int ((a : Int) + (b : Int)) = V.int ((a + b : Nat) : Int); rw [Int.natCast_add])
end
section
variable {X : Cx}
theorem op_notIn_seqK (K : PySem.W.Frag) (h : X.K = K := by rfl) : OpR X (compareOp .NotIn) (rIn K true) := by
  subst h
  exact op_notIn_seq
/-- two rules for one subscript, two for one call -/
theorem ix_or {r r' : R2} (h : IxR X r) (h' : IxR X r') : IxR X (fun x y H Q => r x y H Q ∨ r' x y H Q) := fun e1 e2 pins s σ H x y v u Q I rx ry h0 e => by
  rcases h0 with h0 | h0
  · exact h e1 e2 pins s σ H x y v u Q I rx ry h0 e
  · exact h' e1 e2 pins s σ H x y v u Q I rx ry h0 e
end
end Dw
end
section
/-! for k, (a, b) in enumerate(zip(two lists)) -/
namespace Dw
open PySem PySem.Spec PyProof.Rows L2 Evl RZ
section
variable {prog : Program} {w : World} {A : Around} {E : Value → Shared → Prop} {s : Shared}
end
/-! a turn of a zip that may use its own tuple again -/
abbrev ZipF (h : Heap) (z TI TO : Addr) (f0 f1 : Value) : Prop := h.get? z = some { cls := .type "zip", dict := none, data := .fields #[f0, f1, .bool false, .ref TI, .ref TO], slots := #[] }
section
variable {prog : Program} {w : World} {A : Around} {E : Value → Shared → Prop} {s : Shared} {z TI TO T p q : Addr} {F G : List Addr} {n m i : Nat} {P R : Nat → Value → Prop} {U V : Nat → Heap → Prop} {f0 f1 a1 a2 : Value}
/-! next of a zip, whatever its own tuple is -/
/-- what stands of a zip between two turns -/
def ZTn (z TI TO p q a b : Addr) (i : Nat) (h : Heap) : Prop := IsTupOf2 h TI (.ref p) (.ref q) ∧ (∃ x y, IsTupOf2 h TO x y) ∧ (ZipF h z TI TO .none (.bool false) ∨ ∃ T f, IsZipHeld h z TI TO T f) ∧ h.IsListIter p a i ∧ h.IsListIter q b i
end
end Dw
end
section
/-! for k, (a, b) in enumerate(zip(two lists)): the walker -/
namespace Dw
open PySem PySem.Spec PyProof.Rows L2 Evl RZ
theorem ZTn.keep {z TI TO p q a b : Addr} {i : Nat} {h h' : Heap} (st : ZTn z TI TO p q a b i h) (k : ∀ c ∈ [z, TI, TO, p, q], ∀ o, h.get? c = some o → h'.get? c = some o) : ZTn z TI TO p q a b i h' := by
  obtain ⟨c1, ⟨x, y, c2⟩, c3, c4, c5⟩ := st
  refine ⟨k _ (by simp) _ c1, ⟨x, y, k _ (by simp) _ c2⟩, ?_, c4.at fun o e => k p (by simp) o e, c5.at fun o e => k q (by simp) o e⟩
  rcases c3 with c3 | ⟨T, f, c3⟩
  · exact .inl (k _ (by simp) _ c3)
  · exact .inr ⟨T, f, k _ (by simp) _ c3⟩
theorem FpOk.new {X : Cx} {pins : List (Addr × Obj)} {H : Hp} {b T : Addr} {o : HO} (h : FpOk X pins H b) (ne : b ≠ T) : FpOk X pins (upd H T o) b := ⟨by rw [upd_ne ne]; exact h.1, h.2⟩
end Dw
end
section
/-! enumerate(zip(two lists)): the expression -/
namespace Dw
open PySem PySem.Spec PyProof.Rows L2 Evl RZ
end Dw
end
section
/-! l.extend(any tuple that is read) -/
namespace Dw
open PySem PySem.Spec PyProof.Rows L2 Evl RZ
section
variable {X : Cx}
end
end Dw
end
section
/-! [.. for k, (a, b) in enumerate(zip(two lists)) if ..] -/
namespace Dw
open PySem PySem.Spec PyProof.Rows L2 Evl RZ
section
variable {K : PySem.W.Frag} {σ : L2.St} {H H' : Hp} {te : TE} {tt : TT}
end
end Dw
end
section
/-! t.index(x), x any small data -/
namespace Dw
open PySem PySem.Spec PyProof.Rows L2 Evl RZ
end Dw
end
section
namespace Dw
open PySem PySem.Spec PyProof.Rows L2
/-! list(a text): its signs -/
def signsV (z : Str) : List V := z.cps.toList.map fun c => V.str ⟨#[c]⟩
def rListS : List V → Hp → VK → Prop := fun xs H Q => ∃ z : Str, xs = [.str z] ∧ z.cps.size ≤ sizeLine ∧ ∀ l, H l = none → Q (.ref l) (upd H l (.lst (signsV z)))
end Dw
end
section
/-! zip(a list, a tuple): as many pairs as the shorter has -/
namespace Dw
open PySem PySem.Spec PyProof.Rows L2 Evl RZ
def StandsM (z TI TO i1 i2 a b : Addr) (i : Nat) (hp : Heap) : Prop := IsZip hp z TI TO .none ∧ IsTupOf2 hp TI (.ref i1) (.ref i2) ∧ (∃ x y, IsTupOf2 hp TO x y) ∧ hp.IsListIter i1 a i ∧ hp.IsTupleIter i2 b i
theorem five {c z TI TO i1 i2 : Addr} {P : Addr → Prop} (h : c ∈ [z, TI, TO, i1, i2]) (p1 : P z) (p2 : P TI) (p3 : P TO) (p4 : P i1) (p5 : P i2) : P c := by
  simp only [List.mem_cons, List.not_mem_nil, or_false] at h
  rcases h with e | e | e | e | e <;> (rw [e]; assumption)
theorem StandsM.low {z TI TO i1 i2 a b : Addr} {i : Nat} {hp : Heap} (st : StandsM z TI TO i1 i2 a b i hp) {c : Addr} (h : c ∈ [z, TI, TO, i1, i2]) : c < hp.objs.size := by
  obtain ⟨hz, hI, ⟨x, y, hO⟩, ⟨o1, e1, _⟩, ⟨o2, e2, _⟩⟩ := st
  exact five (P := fun c => c < hp.objs.size) h (Heap.lt_size hz) (Heap.lt_size hI) (Heap.lt_size hO) (Heap.lt_size e1) (Heap.lt_size e2)
end Dw
end
section
/-! dicts told with the same keys and the same data -/
namespace Dw
open PySem PySem.Spec PyProof.Rows L2 Evl RZ
section
variable {X : Cx}
end
end Dw
end
section
/-! zip(a tuple, a list): as many pairs as the shorter has -/
namespace Dw
open PySem PySem.Spec PyProof.Rows L2 Evl RZ
def StandsN (z TI TO i1 i2 a b : Addr) (i : Nat) (hp : Heap) : Prop := IsZip hp z TI TO .none ∧ IsTupOf2 hp TI (.ref i1) (.ref i2) ∧ (∃ x y, IsTupOf2 hp TO x y) ∧ hp.IsTupleIter i1 a i ∧ hp.IsListIter i2 b i
theorem StandsN.low {z TI TO i1 i2 a b : Addr} {i : Nat} {hp : Heap} (st : StandsN z TI TO i1 i2 a b i hp) {c : Addr} (h : c ∈ [z, TI, TO, i1, i2]) : c < hp.objs.size := by
  obtain ⟨hz, hI, ⟨x, y, hO⟩, ⟨o1, e1, _⟩, ⟨o2, e2, _⟩⟩ := st
  exact five (P := fun c => c < hp.objs.size) h (Heap.lt_size hz) (Heap.lt_size hI) (Heap.lt_size hO) (Heap.lt_size e1) (Heap.lt_size e2)
end Dw
end
section
/-! list(zip(a, b)) -/
namespace Dw
open PySem PySem.Spec PyProof.Rows L2 Evl
/-- what a zip under way is, with S apart -/
structure ZG (z TI TO p q a b S : Addr) (t1 t2 : Bool) (xs ys : Array Value) (i : Nat) (h : Heap) : Prop where
  ti : IsTupOf2 h TI (.ref p) (.ref q)
  s1 : SqI t1 p a xs i h
  s2 : SqI t2 q b ys i h
  st : (IsZip h z TI TO .none ∧ ∃ x y, IsTupOf2 h TO x y) ∨ ∃ T f oT, IsZipHeld h z TI TO T f ∧ h.get? T = some oT ∧ T ≠ z ∧ T ≠ p ∧ T ≠ q ∧ T ≠ S
theorem ZG.keep {z TI TO p q a b S : Addr} {t1 t2 : Bool} {xs ys : Array Value} {i : Nat} {h h' : Heap} (g : ZG z TI TO p q a b S t1 t2 xs ys i h) (far : ∀ c ∈ [z, TI, TO, p, q, a, b], c < S) (k : ∀ c o, c ≠ S → h.get? c = some o → h'.get? c = some o) : ZG z TI TO p q a b S t1 t2 xs ys i h' := by
  have nz : ∀ c ∈ [z, TI, TO, p, q, a, b], c ≠ S := fun c hc => Nat.ne_of_lt (far c hc)
  obtain ⟨e1, e2, e3, e4⟩ := g
  refine ⟨k _ _ (nz TI (by simp)) e1, e2.keep fun c hc o e => ?_, e3.keep fun c hc o e => ?_, ?_⟩
  · rcases hc with x | x <;> subst x <;> exact k _ o (nz _ (by simp)) e
  · rcases hc with x | x <;> subst x <;> exact k _ o (nz _ (by simp)) e
  · rcases e4 with ⟨isZ, x, y, isO⟩ | ⟨T, f, oT, isZ, atT, r1, r2, r3, r4⟩
    · exact .inl ⟨k _ _ (nz z (by simp)) isZ, x, y, k _ _ (nz TO (by simp)) isO⟩
    · exact .inr ⟨T, f, oT, k _ _ (nz z (by simp)) isZ, k _ _ r4 atT, r1, r2, r3, r4⟩
section
variable {prog : Program} {w : World} {A : Around} {E : Value → Shared → Prop} {s : Shared} {z TI TO p q a b S : Addr} {t1 t2 : Bool} {xs ys : Array Value} {i : Nat}
end
section
variable {prog : Program} {w : World} {A : Around} {s : Shared} {R : Result → Shared → Prop} {z TI TO p q a b S : Addr} {t1 t2 : Bool} {xs ys : Array Value}
end
section
variable {prog : Program} {w : World} {A : Around} {E : Value → Shared → Prop} {s : Shared} {z TI TO p q a b : Addr} {t1 t2 : Bool} {xs ys : Array Value}
end
/-! laid down -/
end Dw
end
section
/-! a tuple times 0 or 1 -/
namespace Dw
open PySem PySem.Spec PyProof.Rows L2
end Dw
end
section
/-! a caught exception that is kept: it is told from the catch on, so that isinstance can be asked of it behind the try -/
namespace Dw
open PySem PySem.Spec PyProof.Rows L2
/-- an exception of the class cls, that is no longer in the air -/
def ExcAt (a : Addr) (cls : Value) (d : Option Addr) : HO := .ext fun h => ∃ ob fv, h.get? a = some ob ∧ Zc cls d ob ∧ ob.data = .fields fv
section
variable {X : Cx} {pins : List (Addr × Obj)} {σ : L2.St} {H : Hp} {s : Shared}
end
section
variable {X : Cx} {x n : Str} {c : Value} {i : Nat} {body suite : List Stmt} {b0 : Stmt} {np p1 p2 : Pos} {tb : WX → TS} {ts : TS}
end
end Dw
end
section
/-! isinstance of a kept exception; defs that raise, called in a try -/
namespace Dw
open PySem PySem.Spec PyProof.Rows L2 Evl
end Dw
end
section
/-! repr of a written list with dicts of data among its items -/
namespace Dw
open PySem PySem.Spec PyProof.Rows L2 Evl
/-! data of texts, numbers and tuples alone: no place is told of it -/
mutual
def noL : PyData → Bool
  | .none | .bool _ | .int _ | .str _ => true
  | .tuple xs => noLs xs
  | .list _ | .dict _ => false
def noLs : List PyData → Bool
  | [] => true
  | x :: xs => noL x && noLs xs
end
section
variable {X : Cx} {pins : List (Addr × Obj)} {σ : L2.St} {H : Hp} {s : Shared}
end
/-! sizes -/
structure Gs (k W : Nat) (d : PyData) : Prop where
  dep : d.depth ≤ k
  wgt : d.weight ≤ W
  its : d.leavesShort 13 = true
  sho : d.showable = true
theorem Gd.gs {k W : Nat} {d : PyData} (h : Gd k W d) : Gs k W d := ⟨h.dep, h.wgt, PyData.leavesShort_of_canLay0 13 d h.lay h.its, h.sho⟩
theorem Gs.mono {k W k' W' : Nat} {d : PyData} (h : Gs k W d) (a : k ≤ k') (b : W ≤ W') : Gs k' W' d := ⟨Nat.le_trans h.dep a, Nat.le_trans h.wgt b, h.its, h.sho⟩
theorem Gs.len {k W : Nat} {d : PyData} (h : Gs k W d) (b : W ≤ 1000000) : d.shown.length ≤ sizeLine := by
  have z := PyData.shown_le 13 (by decide) d h.its
  have y := h.wgt
  rw [sizeLine_eq]
  omega
end Dw
end
section
/-! == and != of deep data; isinstance of what was caught or of None, one class or a written tuple of them -/
namespace Dw
open PySem PySem.Spec PyProof.Rows L2 Evl
/-- None, or a kept exception: its type -/
def TyC (K : PySem.W.Frag) (H : Hp) (x : V) (t : Value) : Prop := (x = .non ∧ t = .type "NoneType") ∨ ∃ (a C : Addr), x = .ref a ∧ H a = some (ExcAt a (.ref C) none) ∧ ExcC K C ∧ t = .ref C
theorem TyC.ex {K : PySem.W.Frag} {H H' : Hp} {x : V} {t : Value} (e : Ex H H') (h : TyC K H x t) : TyC K H' x t := h.imp id fun ⟨a, C, h1, h2, h3, h4⟩ => ⟨a, C, h1, e _ _ h2, h3, h4⟩
end Dw
end
section
/-! defs that are only called where nothing is being shown, and repr in them -/
namespace Dw
open PySem PySem.Spec PyProof.Rows L2 Evl
end Dw
end
section
/-! in of a tuple of data; repr of deep data -/
namespace Dw
open PySem PySem.Spec PyProof.Rows L2 Evl
def rInTD (K : PySem.W.Frag) : R2 := fun x y H Q => ∃ d ds, Dp K H x d ∧ Dp K H y (.tuple ds) ∧ SeqAt.shaped d = true ∧ SeqAt.shaped (.tuple ds) = true ∧ Q (.bl (ds.any fun z => PyData.eqv z d)) H
theorem op_inTD {X : Cx} (hu : X.A.units + 65 < cLine) : OpR X (compareOp .In) (rInTD X.K) := by
  intro pins s σ H x y v u Q I rx ry h
  obtain ⟨d, ds, hd, he, sd, se, q⟩ := h
  obtain ⟨as, r1⟩ := Dp.reads I d x v hd rx
  obtain ⟨bs, r2⟩ := Dp.reads I (.tuple ds) y u he ry
  exact SeqAt.in_tuple_reads r2 r1 (SeqAt.canLay_of_shaped se) (SeqAt.canLay_of_shaped sd) (room_in_shaped sd hu) ⟨.bl _, H, I, rfl, q⟩
end Dw
end
section
/-! tuple * int, the int small, below 1 too -/
namespace Dw
open PySem PySem.Spec PyProof.Rows L2 Evl
theorem tuple_mul1 (l : Addr) (items : Array Value) (n : Nat) (dd : Option Addr) (sl : Array (Option Value)) (x : Int) (u : Tok) (hx : x = 1) :
    Meets (Builtin.«tuple.__mul__» ⟨[.ref l, .int x u], []⟩) (fun _ R s => s.heap.get? l = some { cls := .type "tuple", dict := dd, data := .seq items n, slots := sl } ∧ R (.ok (.ret (Value.ref l))) s) :=
  .of_wp fun prog w A R s h => by
    obtain ⟨hp, g, d, tk, os⟩ := s
    obtain ⟨hl, h⟩ := h
    have f1 := AutoSeq1.idx_int
    have c0 : (decide (x < -(2 ^ 63)) || decide (x ≥ 2 ^ 63)) = false := by
      rw [decide_eq_false (by omega), decide_eq_false (by omega)] <;> rfl
    have c1 : (items.isEmpty || x == 1) = true := by
      rw [hx]
      simp
    wp_walk using wpAny_loadPart' hl
    repeat (first
      | (refine wpAny_ite_false (decide_eq_false (by rw [c0]; exact Bool.false_ne_true)) ?_; wp_walk using wpAny_loadPart' hl)
      | (refine wpAny_ite_true (decide_eq_true (by rw [c1])) ?_; wp_walk using wpAny_loadPart' hl))
    exact ⟨_, rfl, h⟩
theorem tuple_mul0 (l : Addr) (items : Array Value) (n : Nat) (dd : Option Addr) (sl : Array (Option Value)) (x : Int) (u : Tok) (hx : x ≤ 0) (h10 : -10 ≤ x) (ne : items.isEmpty = false) :
    Meets (Builtin.«tuple.__mul__» ⟨[.ref l, .int x u], []⟩) (fun _ R s => s.heap.get? l = some { cls := .type "tuple", dict := dd, data := .seq items n, slots := sl } ∧
      R (.ok (.ret (Value.ref s.heap.objs.size))) { s with heap := s.heap.push { cls := Value.type "tuple", data := Data.seq #[] }, toks := s.toks }) :=
  .of_wp fun prog w A R s h => by
    obtain ⟨hp, g, d, tk, os⟩ := s
    obtain ⟨hl, h⟩ := h
    have f1 := AutoSeq1.idx_int
    have c0 : (decide (x < -(2 ^ 63)) || decide (x ≥ 2 ^ 63)) = false := by
      rw [decide_eq_false (by omega), decide_eq_false (by omega)] <;> rfl
    have c1 : (items.isEmpty || x == 1) = false := by
      rw [ne, Bool.false_or]
      exact beq_eq_false_iff_ne.mpr (by omega)
    have c2 : (decide (x ≤ 0) || items.isEmpty) = true := by
      rw [decide_eq_true hx]
      rfl
    wp_walk using wpAny_loadPart' hl
    repeat (first
      | (refine wpAny_ite_false (decide_eq_false (by rw [c0]; exact Bool.false_ne_true)) ?_; wp_walk using wpAny_loadPart' hl)
      | (refine wpAny_ite_false (decide_eq_false (by rw [c1]; exact Bool.false_ne_true)) ?_; wp_walk using wpAny_loadPart' hl)
      | (refine wpAny_ite_true (decide_eq_true (by rw [c2])) ?_; wp_walk using wpAny_loadPart' hl))
    exact ⟨_, rfl, h⟩
/-- tuple * int: nothing, itself, or so often -/
def rRepTA (K : PySem.W.Frag) : R2 := fun x y H Q => ∃ l k xs, x = .ref l ∧ y = .int k ∧ SqT K H l xs ∧ xs ≠ [] ∧ -10 ≤ k ∧ k ≤ 1000 ∧ xs.length ≤ 1000 ∧
  (k ≤ 0 → ∀ p, H p = none → Q (.ref p) (upd H p (.tup []))) ∧ (k = 1 → Q (.ref l) H) ∧ (2 ≤ k → ∀ p, H p = none → Q (.ref p) (upd H p (.tup (List.replicate k.toNat xs).flatten)))
theorem op_repTA {X : Cx} : OpR X (binaryOp .Mult) (rRepTA X.K) := by
  intro pins s σ H x y v u Q I rx ry h
  obtain ⟨l, k, xs, rfl, rfl, hT, hne, h0, h2, hz, q0, q1, q2⟩ := h
  by_cases k2 : 2 ≤ k
  · exact op_repT pins s σ H _ _ _ _ Q I rx ry ⟨l, k, xs, rfl, rfl, hT, hne, k2, h2, hz, q2 k2⟩
  cases rx
  obtain ⟨t, rfl⟩ := ry
  obtain ⟨its, r, ⟨⟨cls, dd, data, sl⟩, ho, hc, n, hd⟩, hs⟩ := I.tuple hT
  simp only at hc hd
  subst hc hd
  have hle : its.length = xs.length := r.length.symm
  have hn : its ≠ [] := fun e => hne (by
    rw [e] at hle
    exact List.eq_nil_of_length_eq_zero hle.symm)
  have hi : its.toArray.isEmpty = false := by
    cases its with
    | nil => exact absurd rfl hn
    | cons a b => rfl
  by_cases k1 : k = 1
  · exact wpAny_binaryOp_repeat_ref (T := "tuple") (U := "int") (by decide) ⟨_, ho, rfl⟩ (fun s' => typeIs_int s' k t) noFill_tuple_mul F.fills_int_mul F.slot_int_rmul repeat_tuple F.slot_int_index.lookup
      (call_meets F.slot_int_rmul (typeIs_int s k t) F.entry_int_rmul (F.args_int_rmul_2 _ _) (int_rmul_tuple k t l its.toArray n dd sl)
        ⟨ho, rfl, ⟨_, ho, rfl⟩, call_meets F.slot_tuple_mul ⟨_, ho, rfl⟩ F.entry_tuple_mul (F.args_tuple_mul_2 _ _) (tuple_mul1 l its.toArray n dd sl k t k1) ⟨ho, ⟨.ref l, H, I, rfl, q1 k1⟩⟩⟩)
  · have k0 : k ≤ 0 := by omega
    refine wpAny_binaryOp_repeat_ref (T := "tuple") (U := "int") (by decide) ⟨_, ho, rfl⟩ (fun s' => typeIs_int s' k t) noFill_tuple_mul F.fills_int_mul F.slot_int_rmul repeat_tuple F.slot_int_index.lookup
      (call_meets F.slot_int_rmul (typeIs_int s k t) F.entry_int_rmul (F.args_int_rmul_2 _ _) (int_rmul_tuple k t l its.toArray n dd sl)
        ⟨ho, rfl, ⟨_, ho, rfl⟩, call_meets F.slot_tuple_mul ⟨_, ho, rfl⟩ F.entry_tuple_mul (F.args_tuple_mul_2 _ _) (tuple_mul0 l its.toArray n dd sl k t k0 h0 hi) ⟨ho, ?_⟩⟩)
    refine ⟨.ref s.heap.objs.size, _, I.laid (t' := s.toks) (o := .tup []) (fun b ob q => Heap.get?_push_of_some _ q) (Nat.le_refl _) ?_, rfl, q0 k0 _ (I.hok.fresh (Nat.le_refl _))⟩
    exact ⟨Nat.zero_le _, [], .nil, IsTup.new _ _⟩
end Dw
end
section
/-! repr of any data without dicts -/
namespace Dw
open PySem PySem.Spec PyProof.Rows L2 Evl
def rReprW (X : Cx) : List V → Hp → VK → Prop := fun xs H Q => ∃ (v : V) (d : PyData), xs = [v] ∧ Dp X.K H v d ∧ X.A.guards = some [] ∧ d.showable = true ∧ d.hasDict = false ∧ d.depth ≤ 190 ∧ d.shown.length ≤ sizeLine ∧ Q (.str d.shown) H
theorem call_reprW {X : Cx} {k : Nat} (hr : Room k X.A) : CallR X (.builtin "repr") (rReprW X) := by
  intro pins s σ H xs us Q I r h
  obtain ⟨v, d, e, hd, hg, hs, hn, hz, hl, q⟩ := h
  subst e
  obtain ⟨u, rfl, ru⟩ := vals1 r
  have un := hr.un
  have isRef : ∀ a, v = .ref a → wpAny (model X.prog X.w) X.A (call (.builtin "repr") [u]) (fun w' s' => ∃ z H', Inv X pins σ H' s' ∧ RelV z w' ∧ Q z H') X.xe s := fun a e => by
    subst e
    obtain ⟨as, rd⟩ := Dp.reads I d _ _ hd ru
    cases (show u = Value.ref a from ru)
    exact repr_of_reads' rd hs (PyData.noDict_hsm hn) hg (by omega) (fun _ _ z => z) (fun h' t tk keep => ⟨.str d.shown, H, I.kept keep, ⟨t, rfl⟩, q⟩) hl
  cases hd with
  | non =>
    cases (show u = Value.none from ru)
    exact PySem.P.repr_of_none ⟨.str _, H, I.tok _, ⟨_, rfl⟩, q⟩
  | bl b =>
    cases (show u = Value.bool b from ru)
    exact PySem.P.repr_of_bool ⟨.str _, H, I.tok _, ⟨_, rfl⟩, q⟩
  | int i =>
    obtain ⟨t, e⟩ := (show ∃ t, u = Value.int i t from ru)
    subst e
    exact PySem.P.repr_of_int (by rw [PyData.showable] at hs; exact of_decide_eq_true hs) ⟨.str _, H, I.tok _, ⟨_, rfl⟩, q⟩
  | str x =>
    obtain ⟨t, e⟩ := (show ∃ t, u = Value.str x t from ru)
    subst e
    exact PySem.P.repr_of_str ⟨.str _, H, I.tok _, ⟨_, rfl⟩, q⟩ hl
  | lst _ _ => exact isRef _ rfl
  | tup _ _ => exact isRef _ rfl
end Dw
end
section
/-! min and sum of a tuple of numbers -/
namespace Dw
open PySem PySem.Spec PyProof.Rows PyProof.V L2 Evl PySem.W
section
variable {K : PySem.W.Frag} {σ : L2.St} {H : Hp} {te : TE}
end
end Dw
end
section
/-! closed lists of numbers: the mathematics -/
namespace CL
open M20 M25
/-- the place of a row -/
def plc (n : Nat) (ns : List Nat) : Nat := ns.foldl (fun acc k => acc * n + k) 0
theorem plc_low {n : Nat} : ∀ {ns : List Nat}, (∀ k ∈ ns, k < n) → ns.length ≤ 2 → plc n ns < n ^ ns.length
  | [], _, _ => by
    show 0 < n ^ 0
    rw [Nat.pow_zero]
    decide
  | [a], h, _ => by
    have := h a (List.mem_singleton.mpr rfl)
    show 0 * n + a < n ^ 1
    rw [Nat.pow_one, Nat.zero_mul, Nat.zero_add]
    exact this
  | [a, b], h, _ => by
    have ha := h a (List.mem_cons_self ..)
    have hb := h b (List.mem_cons_of_mem _ (List.mem_singleton.mpr rfl))
    show (0 * n + a) * n + b < n ^ 2
    rw [Nat.zero_mul, Nat.zero_add, Nat.pow_two]
    have : (a + 1) * n ≤ n * n := Nat.mul_le_mul_right n ha
    rw [Nat.add_mul, Nat.one_mul] at this
    omega
  | _ :: _ :: _ :: _, _, h => absurd h (by simp)
theorem plc_take {n : Nat} {ns : List Nat} {i k : Nat} (h : ns[i]? = some k) : plc n (ns.take (i + 1)) = plc n (ns.take i) * n + k := by
  unfold plc
  rw [List.take_add_one, h, List.foldl_append]
  rfl
theorem rows_plc {n p : Nat} (p2 : p ≤ 2) (n1 : 0 < n) {i : Nat} (h : i < n ^ p) : ∃ r, (rows n p)[i]? = some r ∧ plc n r = i := by
  match p, p2, h with
  | 0, _, h =>
    rw [Nat.pow_zero] at h
    have : i = 0 := by omega
    subst this
    exact ⟨[], rfl, rfl⟩
  | 1, _, h =>
    rw [Nat.pow_one] at h
    refine ⟨[i], ?_, by show 0 * n + i = i; omega⟩
    rw [rows_1, List.getElem?_map, List.getElem?_range h]
    rfl
  | 2, _, h =>
    rw [Nat.pow_two] at h
    refine ⟨[i / n, i % n], ?_, ?_⟩
    · rw [rows_2 n1, List.getElem?_map, List.getElem?_range h]
      rfl
    · show (0 * n + i / n) * n + i % n = i
      rw [Nat.zero_mul, Nat.zero_add, Nat.mul_comm]
      exact Nat.div_add_mod i n
section
variable {α : Type}
/-- all arguments are among these -/
def among (r S : List Nat) : Bool := r.all fun a => decide (a ∈ S)
/-- a cell leads out of a list -/
def outs (S : List Nat) (c : α × List Nat × Nat) : Bool := !decide (c.2.2 ∈ S) && among c.2.1 S
def closed (cs : List (α × List Nat × Nat)) (S : List Nat) : Bool := cs.all fun c => !outs S c
end
/-! ### rising lists -/
def sub : Nat → List (List Nat)
  | 0 => [[]]
  | k + 1 => sub k ++ (sub k).map (· ++ [k])
def Up (n : Nat) (x : List Nat) : Prop := x.Pairwise (· < ·) ∧ ∀ k ∈ x, k < n
theorem Up.nodup {n : Nat} {x : List Nat} (h : Up n x) : x.Nodup := h.1.imp fun h => Nat.ne_of_lt h
/-! ### building -/
section
variable {α : Type}
/-- steps: numbers given, then worths of cells of what is there -/
inductive Built (cs : List (α × List Nat × Nat)) (ms : List Nat) : List (Nat × Option (α × List Nat)) → Prop where
  | base : Built cs ms (ms.map fun k => (k, none))
  | step {st : List (Nat × Option (α × List Nat))} {c : α × List Nat × Nat} : Built cs ms st → c ∈ cs → c.2.2 ∉ st.map (·.1) → (∀ a ∈ c.2.1, a ∈ st.map (·.1)) → Built cs ms (st ++ [(c.2.2, some (c.1, c.2.1))])
theorem Built.nodup {cs : List (α × List Nat × Nat)} {ms : List Nat} {st : List (Nat × Option (α × List Nat))} (nd : ms.Nodup) (h : Built cs ms st) : (st.map (·.1)).Nodup := by
  induction h with
  | base =>
    rw [List.map_map]
    show (ms.map fun k => k).Nodup
    rw [List.map_id']
    exact nd
  | step b hc hn ha ih =>
    rw [List.map_append, List.nodup_append]
    exact ⟨ih, List.pairwise_singleton _ _, fun x hx y hy e => hn (by
      rw [List.mem_singleton.mp hy] at e
      dsimp only at e
      rw [← e]
      exact hx)⟩
theorem Built.low {cs : List (α × List Nat × Nat)} {ms : List Nat} {st : List (Nat × Option (α × List Nat))} {n : Nat} (l1 : ∀ k ∈ ms, k < n) (l2 : ∀ c ∈ cs, c.2.2 < n) (h : Built cs ms st) : ∀ k ∈ st.map (·.1), k < n := by
  induction h with
  | base =>
    intro k hk
    obtain ⟨x, hx, rfl⟩ := List.mem_map.mp hk
    obtain ⟨y, hy, rfl⟩ := List.mem_map.mp hx
    exact l1 _ hy
  | step b hc hn ha ih =>
    intro k hk
    rw [List.map_append] at hk
    rcases List.mem_append.mp hk with z | z
    · exact ih k z
    · rw [List.mem_singleton.mp z]
      exact l2 _ hc
end
end CL
end
section
/-! lists of lists of numbers, each at its own new place -/
namespace Dw
open PySem PySem.Spec PyProof.Rows L2 Evl PySem.W M25
/-- a list of numbers at its place -/
def LN (H : Hp) (v : V) (ns : List Nat) : Prop := ∃ a, v = .ref a ∧ H a = some (.lst (ns.map vi))
theorem LN.ex {H H' : Hp} {v : V} {ns : List Nat} (e : Ex H H') (h : LN H v ns) : LN H' v ns := let ⟨a, q, s⟩ := h; ⟨a, q, e _ _ s⟩
theorem dp_ln {K : PySem.W.Frag} {H : Hp} {b : Addr} {ns : List Nat} (h : H b = some (.lst (ns.map vi))) : Dp K H (.ref b) (dL ns) := .lst (sq_of h) (dps_nats ns)
/-- a new list of new lists, all at places of their own, none there in H0 -/
structure LLs (H0 H : Hp) (a : Addr) (as : List Addr) (L : List (List Nat)) : Prop where
  at_ : H a = some (.lst (as.map V.ref))
  new : H0 a = none
  each : Paired (fun b ns => H b = some (.lst (ns.map vi)) ∧ H0 b = none) as L
  nd : as.Nodup
  ne : a ∉ as
theorem LLs.ex {H0 H H' : Hp} {a : Addr} {as : List Addr} {L : List (List Nat)} (e : Ex H H') (h : LLs H0 H a as L) : LLs H0 H' a as L := ⟨e _ _ h.at_, h.new, paired_imp (fun _ _ z => ⟨e _ _ z.1, z.2⟩) h.each, h.nd, h.ne⟩
theorem LLs.low {H0 H1 H : Hp} {a : Addr} {as : List Addr} {L : List (List Nat)} (e : Ex H0 H1) (h : LLs H1 H a as L) : LLs H0 H a as L := ⟨h.at_, fresh_back e h.new, paired_imp (fun _ _ z => ⟨z.1, fresh_back e z.2⟩) h.each, h.nd, h.ne⟩
theorem LLs.len {H0 H : Hp} {a : Addr} {as : List Addr} {L : List (List Nat)} (h : LLs H0 H a as L) : as.length = L.length := paired_len h.each
theorem LLs.some {H0 H : Hp} {a : Addr} {as : List Addr} {L : List (List Nat)} (h : LLs H0 H a as L) {b : Addr} (hb : b ∈ as) : ∃ ns, ns ∈ L ∧ H b = some (.lst (ns.map vi)) ∧ H0 b = none := by
  obtain ⟨i, hi⟩ := List.mem_iff_getElem?.mp hb
  obtain ⟨ns, e, q⟩ := paired_at h.each hi
  exact ⟨ns, List.mem_iff_getElem?.mpr ⟨i, e⟩, q⟩
theorem dps_lls {K : PySem.W.Frag} {H : Hp} : ∀ {as : List Addr} {L : List (List Nat)}, Paired (fun b ns => H b = some (.lst (ns.map vi))) as L → DpAll K H (as.map V.ref) (L.map dL)
  | _, _, .nil => .nil
  | _, _, .cons a b => .cons (dp_ln a) (dps_lls b)
theorem LLs.dp {K : PySem.W.Frag} {H0 H : Hp} {a : Addr} {as : List Addr} {L : List (List Nat)} (h : LLs H0 H a as L) : Dp K H (.ref a) (.list (L.map dL)) := .lst (sq_of h.at_) (dps_lls (paired_imp (fun _ _ z => z.1) h.each))
section
variable {K : PySem.W.Frag} {σ : L2.St} {H : Hp} {te tl : TE} {tt : TT} {g : TG} {vs : List Nat} {Q : VK}
end
section
variable {K : PySem.W.Frag} {σ : L2.St} {H : Hp} {te tl : TE} {tt : TT} {g : TG} {vs : List Nat} {Q : VK}
end
section
variable {K : PySem.W.Frag} {σ : L2.St} {H : Hp} {D : Ends} {tu tz : TS} {g : TG}
/-- a loop over what is walked, as tFor has it behind its source -/
def Loops (J : It) (g : TG) (tu : TS) (D : Ends) (σ : L2.St) (H1 : Hp) : Prop := ∃ W : Nat → Nat → L2.St → Hp → Prop, (∃ m, W 0 m σ H1) ∧ ∀ i m σ H, W i m σ H →
  (J.stop i H ∧ D.nx σ H) ∨ (J.go i H ∧ ∃ N : L2.St → Hp → Prop, (∀ σ' H', N σ' H' → ∃ m', m' < m ∧ W (i + 1) m' σ' H') ∧ ∀ x H', J.yld i H x H' → g x σ H' fun σ2 H2 => tu { D with nx := N, ct := N, bk := D.nx } σ2 H2)
theorem s_forLs {tl : TE} (h : tl σ H fun x H1 => ∃ a, x = .ref a ∧ (∃ xs, SqL K H1 a xs) ∧ Loops (Itl K a) g tu D σ H1) : tFor (iList K tl) g tu D σ H := h
theorem loops_list {a : Addr} {xs : List V} (Pv : Nat → L2.St → Hp → Prop) (h0 : Pv 0 σ H) (hk : ∀ i σ' H', i ≤ xs.length → Pv i σ' H' → SqL K H' a xs)
    (hs : ∀ i x σ' H', xs[i]? = some x → Pv i σ' H' → g x σ' H' fun σ2 H2 => tu { D with nx := Pv (i + 1), ct := Pv (i + 1), bk := D.nx } σ2 H2) (hd : ∀ σ' H', Pv xs.length σ' H' → D.nx σ' H') : Loops (Itl K a) g tu D σ H :=
  for_it (walk_list (K := K) (a := a) (xs := xs)) Pv h0 hk (fun i v σ' H2 H3 hi p y => by
    obtain ⟨rfl, e1⟩ := y
    exact hs i v σ' _ e1 p) hd
end
section
variable {K : PySem.W.Frag} {σ : L2.St} {H : Hp} {D : Ends} {tu tz : TS} {g : TG}
end
section
variable {K : PySem.W.Frag} {σ : L2.St} {H : Hp} {D : Ends} {ta te : TE} {tt : TT} {tz : TS} {P : V → Hp → Prop}
theorem paired_eqs {u : Nat → V} : ∀ {ws : List V} {is : List Nat}, Paired (fun v i => v = u i) ws is → ws = is.map u
  | _, _, .nil => rfl
  | _, _, .cons a b => by rw [List.map_cons, paired_eqs b, a]
end
section
variable {σ : L2.St} {H : Hp}
end
section
variable {K : PySem.W.Frag} {σ : L2.St} {H : Hp} {te : TE} {w : World}
end
section
variable {K : PySem.W.Frag} {σ : L2.St} {H : Hp} {ta tb te : TE}
end
section
variable {K : PySem.W.Frag} {σ : L2.St} {H : Hp} {ta tb te : TE} {Q : VK}
end
section
variable {K : PySem.W.Frag} {σ : L2.St} {H : Hp} {D : Ends} {tu tz : TS} {g : TG}
/-- a comprehension over a tuple, any target -/
theorem elp_lcTg {te : TE} {tt : TT} {g : TG} {a : Addr} {xs : List V} {tl : TE} {vs : List Nat} (h : Ev tl σ H (.ref a)) (hx : SqT K H a xs) (hn : xs.length ≤ 40000) (f : Nat → Bool) (B : V → Nat → Hp → Prop) (hB : StbB B)
    (hs : ∀ (i : Nat) (x : V) (H1 : Hp), Ex H H1 → xs[i]? = some x → ∀ Φ : L2.St → Hp → Prop, (∀ σ2, wipe σ2 vs = wipe σ vs → EvT tt σ2 H1 (f i) → (f i = true → EvP te σ2 H1 (fun v H' => B v i H')) → Φ σ2 H1) → g x (wipe σ vs) H1 Φ) :
    EvLP (tLc (iTup K tl) g tt te vs) σ H (fun ws H' => Paired (fun v i => B v i H') ws ((List.range xs.length).filter f)) :=
  elp_lc (walk_tup (K := K) (a := a) (xs := xs)) (fun H0 e0 R r => w_tup h hx H0 e0 R r) (fun H1 e1 => ex_t e1 hx) hn f B hB fun i x H1 H2 hi e y => by
    obtain ⟨rfl, hxi⟩ := y
    exact ⟨Ex.refl _, fun Φ k => hs i x _ e hxi Φ k⟩
end
theorem range_getD {β : Type} (d : β) (r : List β) : (List.range r.length).map (fun i => r.getD i d) = r := by
  apply List.ext_getElem?
  intro i
  by_cases hi : i < r.length
  · rw [List.getElem?_map, List.getElem?_range hi, List.getElem?_eq_getElem hi]
    show some (r.getD i d) = _
    rw [List.getD_eq_getElem?_getD, List.getElem?_eq_getElem hi]
    rfl
  · rw [List.getElem?_eq_none_iff.mpr (by simp; omega), List.getElem?_eq_none_iff.mpr (by omega)]
section
variable {K : PySem.W.Frag} {σ : L2.St} {H : Hp} {ta tb te : TE}
end
theorem op_eqDK {X : Cx} (K : PySem.W.Frag) (hu : X.A.units + 64 < cLine) (h : X.K = K := by rfl) : OpR X (compareOp .Eq) (rEqD K) := by
  subst h
  exact op_eqD hu
theorem call_len_seqK {X : Cx} (K : PySem.W.Frag) (h : X.K = K := by rfl) : CallR X (.builtin "len") (rLenS K) := by
  subst h
  exact call_len_seq
theorem call_isiK {X : Cx} (K : PySem.W.Frag) (h : X.K = K := by rfl) : CallR X (.builtin "isinstance") (rIsi K) := by
  subst h
  exact call_isi
section
variable {K : PySem.W.Frag} {σ : L2.St} {H : Hp}
theorem ev_reprW {X : Cx} {te : TE} {d : PyData} {k W : Nat} (hg : X.A.guards = some []) (hK : X.K = K) (h : EvP te σ H fun v H' => Dp K H' v d) (g : Gd k W d) (hk : k ≤ 190) (hW : W ≤ 1000000) : Ev (tCB (rReprW X) (tCons te tNil)) σ H (.str d.shown) := by
  subst hK
  intro H1 e1 Q q
  exact do_cb (do_cons (h H1 e1 _ fun v H2 e2 hv => do_nil ⟨v, d, rfl, hv, hg, g.sho, PyData.hasDict_of_canLay _ g.lay, Nat.le_trans g.dep hk, g.gs.len hW, q H2 e2⟩))
end
theorem cut_last {xs : List V} (h : 1 ≤ xs.length) : cutV xs none (some (-1)) = xs.dropLast ∧ HT.sIx xs.length xs.length (some (-1)) = xs.length - 1 := by
  have e : HT.sIx xs.length xs.length (some (-1)) = xs.length - 1 := by
    have e1 : HT.sIx xs.length xs.length (some (-1)) = ((-1 : Int) + (xs.length : Int)).toNat := by
      unfold HT.sIx
      exact if_pos (by decide)
    rw [e1]
    omega
  refine ⟨?_, e⟩
  unfold cutV
  rw [e, HT.sIx_none, Nat.sub_zero, List.drop_zero, List.dropLast_eq_take]
theorem ix_listK {X : Cx} (K : PySem.W.Frag) (h : X.K = K := by rfl) : IxR X (rIxL K) := by
  subst h
  exact ix_list
end Dw
end
section
/-! max(t, default=k); new lists by comprehensions over a range, of two fors -/
namespace Dw
open PySem PySem.Spec PyProof.Rows L2 Evl PySem.W M25
section
variable {K : PySem.W.Frag} {σ : L2.St} {H : Hp} {te tl : TE} {tt : TT} {g : TG} {vs vs1 : List Nat} {Q : VK}
end
section
variable {σ : L2.St} {H : Hp} {D : Ends} {tu tz : TS} {g : TG}
end
end Dw
end
section
/-! leads: the mathematics -/
namespace LD
open M20 M25 CL
/-- a cell of the one with the table there: args, worth, table -/
abbrev LC := List Nat × Nat × List Nat
/-! ### by levels -/
section
variable {α : Type}
end
end LD
end
section
/-! rows in their order, and lists sorted in one way only -/
namespace LD
open M20 M25 CL
end LD
end
section
/-! sorted(..) told exactly; max((-1,) + row) -/
namespace Dw
open PySem PySem.Spec PyProof.Rows L2 Evl RZ M20 M25 CL PySem.W LD
section
variable {K : PySem.W.Frag} {σ : L2.St} {H : Hp} {te tl : TE} {tt : TT} {g : TG} {vs vs1 : List Nat} {Q : VK}
end
end Dw
end
section
/-! range(n) as a thing; not in range(n) -/
namespace Dw
open PySem PySem.Spec PyProof.Rows L2 Evl RZ M20 M25 CL PySem.W LD
section
variable {K : PySem.W.Frag} {σ : L2.St} {H : Hp} {ta tb : TE}
end
end Dw
end
section
/-! copies: data whose lists are new, told whatever becomes of the lists that stood -/
namespace Dw
open PySem PySem.Spec PyProof.Rows L2 Evl RZ M20 M25 CL PySem.W LD
def Keep (H0 H H' : Hp) : Prop := ∀ b o, (H0 b = none ∨ ∀ ys, o ≠ .lst ys) → H b = some o → H' b = some o
def Cz (K : PySem.W.Frag) (H H' : Hp) (v : V) (d : PyData) : Prop := ∀ H'', Keep H H' H'' → Dp K H'' v d
def CzA (K : PySem.W.Frag) (H H' : Hp) (vs : List V) (ds : List PyData) : Prop := ∀ H'', Keep H H' H'' → DpAll K H'' vs ds
theorem Cz.ex {K : PySem.W.Frag} {H H1 H' : Hp} {v : V} {d : PyData} (e : Ex H1 H') (h : Cz K H H1 v d) : Cz K H H' v d := fun H'' kp => h H'' fun b o c hb => kp b o c (e _ _ hb)
theorem Cz.low {K : PySem.W.Frag} {H H1 H' : Hp} {v : V} {d : PyData} (e : Ex H H1) (h : Cz K H1 H' v d) : Cz K H H' v d := fun H'' kp => h H'' fun b o c hb => kp b o (c.imp (fun z => fresh_back e z) id) hb
theorem Cz.lst {K : PySem.W.Frag} {H H' : Hp} {a : Addr} {vs : List V} {ds : List PyData} (na : H a = none) (ha : H' a = some (.lst vs)) (h : CzA K H H' vs ds) : Cz K H H' (.ref a) (.list ds) := fun H'' kp => .lst (sq_of (kp _ _ (.inl na) ha)) (h H'' kp)
theorem Cz.tup {K : PySem.W.Frag} {H H' : Hp} {a : Addr} {vs : List V} {ds : List PyData} (ha : H' a = some (.tup vs)) (h : CzA K H H' vs ds) : Cz K H H' (.ref a) (.tuple ds) := fun H'' kp => .tup (st_of (kp _ _ (.inr fun _ z => by cases z) ha)) (h H'' kp)
section
variable {K : PySem.W.Frag} {σ : L2.St} {H : Hp} {te tl : TE} {tt : TT} {g : TG} {vs : List Nat} {Q : VK}
end
end Dw
end
section
/-! a text of one sign, so many times -/
namespace Dw
open PySem PySem.Spec PyProof.Rows L2 Evl RZ M20 M25 CL PySem.W LD
section
variable {σ : L2.St} {H : Hp} {ta tb : TE}
end
end Dw
end
section
/-! x or y of things; the last of a list; lists turned about; comprehensions over range(i, j) -/
namespace Dw
open PySem PySem.Spec PyProof.Rows L2 Evl RZ M20 M25 CL PySem.W LD
mutual
theorem dpEx {K : PySem.W.Frag} {H H' : Hp} (e : Ex H H') : ∀ {v : V} {d : PyData}, Dp K H v d → Dp K H' v d
  | _, _, .non => .non
  | _, _, .bl b => .bl b
  | _, _, .int i => .int i
  | _, _, .str x => .str x
  | _, _, .lst h r => .lst (ex_l e h) (dpsEx e r)
  | _, _, .tup h r => .tup (ex_t e h) (dpsEx e r)
theorem dpsEx {K : PySem.W.Frag} {H H' : Hp} (e : Ex H H') : ∀ {vs : List V} {ds : List PyData}, DpAll K H vs ds → DpAll K H' vs ds
  | _, _, .nil => .nil
  | _, _, .cons a b => .cons (dpEx e a) (dpsEx e b)
end
section
variable {K : PySem.W.Frag} {σ : L2.St} {H : Hp} {te tl ta tb : TE} {tt : TT} {g : TG} {vs vs1 : List Nat} {Q : VK}
end
end Dw
end
section
/-! bool(x) of data; x in a list of data -/
namespace GBL
open PySem PyProof.Rows
end GBL
namespace Dw
open PySem PySem.Spec PyProof.Rows L2 Evl RZ M20 M25 CL PySem.W LD
end Dw
end
section
/-! products of tables -/
namespace LD
open M20 M25 CL
def dv (m : Nat) (r : List Nat) : List Nat := r.map fun k => k / m
theorem mem_rows {n : Nat} : ∀ {p : Nat} {r : List Nat}, r.length = p → (∀ k ∈ r, k < n) → r ∈ rows n p
  | 0, r, l, _ => by
    rw [List.eq_nil_of_length_eq_zero l]
    exact List.mem_singleton_self _
  | p + 1, r, l, lo => by
    rcases List.eq_nil_or_concat r with e | ⟨i, x, e⟩
    · rw [e] at l; cases l
    · subst e
      rw [List.concat_eq_append] at l lo ⊢
      rw [List.length_append] at l
      refine List.mem_flatMap.mpr ⟨i, mem_rows (p := p) (by simpa using l) (fun k hk => lo k (List.mem_append.mpr (.inl hk))), List.mem_map.mpr ⟨x, List.mem_range.mpr (lo x (List.mem_append.mpr (.inr (List.mem_singleton_self _)))), rfl⟩⟩
theorem g_map {f : Nat → Nat} {F : List Nat} {i : Nat} (h : i < F.length) : g (F.map f) i = f (g F i) := by
  have e := g_eq (show i < (F.map f).length by rw [List.length_map]; exact h)
  rw [List.getElem?_map, g_eq h] at e
  exact (Option.some.inj e).symm
end LD
end
section
/-! joins, quotients and images: the mathematics -/
namespace JN
open M20 M25 CL LD
theorem mem_g {l : List Nat} {x : Nat} (h : x ∈ l) : ∃ i, i < l.length ∧ g l i = x := by
  obtain ⟨i, hi, e⟩ := List.mem_iff_getElem.mp h
  exact ⟨i, hi, by rw [← Option.some.injEq, ← g_eq hi, List.getElem?_eq_getElem hi, e]⟩
/-! ### all partings -/
structure Can (n : Nat) (L : List Nat) : Prop where
  len : L.length = n
  le : ∀ i, i < n → g L i ≤ i
  fix : ∀ i, i < n → g L (g L i) = g L i
theorem Can.lt {n : Nat} {L : List Nat} (c : Can n L) {i : Nat} (h : i < n) : g L i < n := Nat.lt_of_le_of_lt (c.le i h) h
theorem Can.low {n : Nat} {L : List Nat} (c : Can n L) : ∀ k ∈ L, k < n := fun k hk => by
  obtain ⟨i, hi, rfl⟩ := mem_g hk
  rw [c.len] at hi
  exact c.lt hi
/-! ### what goes with the deeds -/
def goA (n : Nat) (L : List Nat) (c : LC) (j : Nat) : Bool := decide (g L c.2.1 = g L (g c.2.2 (plc n (c.1.set j (g L (g c.1 j))))))
def goC (n : Nat) (L : List Nat) (c : LC) : Bool := (List.range c.1.length).all (goA n L c)
def gwd (n : Nat) (cs : List LC) (L : List Nat) : Bool := cs.all (goC n L)
theorem go_at {n p : Nat} {cs : List LC} {L t : List Nat} (hg : gwd n cs L = true) (hf : ∀ r ∈ rows n p, (r, g t (plc n r), t) ∈ cs) {r : List Nat} (hr : r ∈ rows n p) {j : Nat} (hj : j < p) : g L (g t (plc n r)) = g L (g t (plc n (r.set j (g L (g r j))))) := by
  have a := List.all_eq_true.mp hg _ (hf r hr)
  have b := List.all_eq_true.mp a j (List.mem_range.mpr (by rw [(rows_of hr).1]; exact hj))
  exact of_decide_eq_true b
theorem go_all {n p : Nat} {cs : List LC} {L t : List Nat} (p2 : p ≤ 2) (can : Can n L) (hg : gwd n cs L = true) (hf : ∀ r ∈ rows n p, (r, g t (plc n r), t) ∈ cs) {r : List Nat} (hr : r ∈ rows n p) : g L (g t (plc n (r.map (g L)))) = g L (g t (plc n r)) := by
  obtain ⟨lr, low⟩ := rows_of hr
  match r, lr, low, hr with
  | [], _, _, _ => rfl
  | [a], lr, low, hr => exact (go_at hg hf hr (j := 0) (by rw [← lr]; show 0 < 1; decide)).symm
  | [a, b], lr, low, hr =>
    have h1 := go_at hg hf hr (j := 0) (by rw [← lr]; show 0 < 2; decide)
    have hr2 : [g L a, b] ∈ rows n p := mem_rows lr fun k hk => by
      rcases List.mem_cons.mp hk with rfl | hk
      · exact can.lt (low a (List.mem_cons_self ..))
      · exact low k (List.mem_cons_of_mem _ hk)
    have h2 := go_at hg hf hr2 (j := 1) (by rw [← lr]; show 1 < 2; decide)
    exact (h1.trans h2).symm
  | _ :: _ :: _ :: _, lr, _, _ =>
    simp only [List.length_cons] at lr
    omega
/-! ### the join of a lead -/
/-! ### numbers met, the order between -/
/-! ### tables -/
theorem ok_low {n p : Nat} {t r : List Nat} (p2 : p ≤ 2) (ht : Tab n p t) (hr : r ∈ rows n p) : g t (plc n r) < n := by
  obtain ⟨a, b⟩ := rows_of hr
  have := plc_low b (by rw [a]; exact p2)
  rw [a] at this
  exact ht.low _ this
theorem map_rows {n m p : Nat} {f : Nat → Nat} {r : List Nat} (hr : r ∈ rows n p) (h : ∀ k, k < n → f k < m) : r.map f ∈ rows m p := by
  obtain ⟨a, b⟩ := rows_of hr
  refine mem_rows (by rw [List.length_map, a]) fun k hk => ?_
  obtain ⟨x, hx, rfl⟩ := List.mem_map.mp hk
  exact h x (b x hx)
theorem src_plc {m p : Nat} (p2 : p ≤ 2) {b r : List Nat} (hr : r ∈ rows m p) (m0 : 0 < m) : src m p b (plc m r) = plc m (r.map (g b)) := by
  obtain ⟨lr, low⟩ := rows_of hr
  match r, lr, low with
  | [], lr, _ =>
    subst lr
    rfl
  | [a], lr, _ =>
    have : p = 1 := by rw [← lr]; rfl
    subst this
    show g b (0 * m + a) = 0 * m + g b a
    simp
  | [a, c], lr, low =>
    have : p = 2 := by rw [← lr]; rfl
    subst this
    have hc := low c (by simp)
    show g b (((0 * m + a) * m + c) / m) * m + g b (((0 * m + a) * m + c) % m) = (0 * m + g b a) * m + g b c
    simp only [Nat.zero_mul, Nat.zero_add]
    rw [Nat.add_comm (a * m) c, Nat.add_mul_div_right _ _ m0, Nat.div_eq_of_lt hc, Nat.zero_add, Nat.add_mul_mod_self_right, Nat.mod_eq_of_lt hc]
  | _ :: _ :: _ :: _, lr, _ =>
    simp only [List.length_cons] at lr
    omega
/-! ### the lead to a quotient, the lead from a part -/
end JN
end
section
/-! the least model is least among all that it is led to -/
namespace M25
open M20
end M25
end
section
/-! a map from one model to another, or a closed tree that there is none -/
namespace LK
open M20 M25 CL JN LD
/-- an order leads a table to another just where it carries each cell over -/
theorem hom_ren {n p : Nat} {F t1 t2 : List Nat} (p2 : p ≤ 2) (n1 : 0 < n) (h1 : Tab n p t1) (h2 : Tab n p t2) (hF : Ord n F) : ren n p F t1 = t2 ↔ ∀ r ∈ rows n p, g F (g t1 (plc n r)) = g t2 (plc n (r.map (g F))) := by
  have fb : ∀ r ∈ rows n p, (r.map (g F)).map (g (bk F)) = r := fun r hr => by
    rw [List.map_map]
    have : ∀ x ∈ r, (g (bk F) ∘ g F) x = id x := fun x hx => bk_g hF ((rows_of hr).2 x hx)
    rw [List.map_congr_left this, List.map_id]
  have bf : ∀ r ∈ rows n p, (r.map (g (bk F))).map (g F) = r := fun r hr => by
    rw [List.map_map]
    have : ∀ x ∈ r, (g F ∘ g (bk F)) x = id x := fun x hx => g_bk hF ((rows_of hr).2 x hx)
    rw [List.map_congr_left this, List.map_id]
  constructor
  · intro e r hr
    have hr2 : r.map (g F) ∈ rows n p := map_rows hr fun k hk => hF.low k hk
    have lt : plc n (r.map (g F)) < n ^ p := by
      obtain ⟨a, b⟩ := rows_of hr2
      rw [← a]
      exact plc_low b (by rw [a]; exact p2)
    rw [← e, ren_g lt, src_plc p2 hr2 n1, fb r hr]
  · intro e
    refine M20.ext (by rw [ren_len, h2.len]) fun s hs => ?_
    rw [ren_len] at hs
    obtain ⟨r, hr, rfl⟩ := rows_plc p2 n1 hs
    have mr := List.mem_iff_getElem?.mpr ⟨_, hr⟩
    have hr2 : r.map (g (bk F)) ∈ rows n p := map_rows mr fun k hk => bk_low hF hk
    have := e _ hr2
    rw [bf r mr] at this
    rw [ren_g hs, src_plc p2 mr n1, this]
/-- two signatures' tables by names -/
structure Sys (α : Type) where
  sg : List (α × Nat)
  n : Nat
  ta : α → List Nat
  tb : α → List Nat
structure Sys.Ok {α : Type} (S : Sys α) : Prop where
  n1 : 0 < S.n
  pl : ∀ d ∈ S.sg, d.2 ≤ 2
  a : ∀ d ∈ S.sg, Tab S.n d.2 (S.ta d.1)
  b : ∀ d ∈ S.sg, Tab S.n d.2 (S.tb d.1)
def clsh (n : Nat) (t1 t2 F r : List Nat) : Bool := if g t1 (plc n r) < F.length then !decide (g F (g t1 (plc n r)) = g t2 (plc n (r.map (g F)))) else decide (g t2 (plc n (r.map (g F))) ∈ F)
def bad {α : Type} (S : Sys α) (F : List Nat) (c : α × List Nat) : Bool := clsh S.n (S.ta c.1) (S.tb c.1) F c.2
def cls {α : Type} (sg : List (α × Nat)) (m : Nat) : List (α × List Nat) := sg.flatMap fun d => (rows m d.2).map fun r => (d.1, r)
def fc {α : Type} (S : Sys α) (F : List Nat) : Option (α × List Nat) := (cls S.sg F.length).find? (bad S F)
inductive PT (α : Type) where
  | clash (nm : α) (r : List Nat)
  | case (ks : List (PT α))
def goOn {α : Type} (f : List Nat → List Nat ⊕ PT α) (F : List Nat) : List Nat → List (PT α) → List Nat ⊕ PT α
  | [], acc => .inr (.case acc)
  | x :: xs, acc => match f (F ++ [x]) with
    | .inl m => .inl m
    | .inr t => goOn f F xs (acc ++ [t])
def led {α : Type} (S : Sys α) : Nat → List Nat → List Nat ⊕ PT α
  | 0, F => match fc S F with
    | some c => .inr (.clash c.1 c.2)
    | none => .inl F
  | k + 1, F => match fc S F with
    | some c => .inr (.clash c.1 c.2)
    | none => goOn (led S k) F (free S.n F) []
inductive Rt {α : Type} (S : Sys α) : List Nat → PT α → Prop where
  | clash {F : List Nat} {c : α × List Nat} : c ∈ cls S.sg F.length → bad S F c = true → Rt S F (.clash c.1 c.2)
  | case {F : List Nat} {ks : List (PT α)} : F.length < S.n → ks.length = (free S.n F).length → (∀ (i x : Nat) (t : PT α), ks[i]? = some t → (free S.n F)[i]? = some x → Rt S (F ++ [x]) t) → Rt S F (.case ks)
theorem cls_mem {α : Type} {sg : List (α × Nat)} {m : Nat} {c : α × List Nat} : c ∈ cls sg m ↔ ∃ d ∈ sg, c.1 = d.1 ∧ c.2 ∈ rows m d.2 := by
  unfold cls
  rw [List.mem_flatMap]
  constructor
  · rintro ⟨d, hd, h⟩
    obtain ⟨r, hr, rfl⟩ := List.mem_map.mp h
    exact ⟨d, hd, rfl, hr⟩
  · rintro ⟨d, hd, e, h⟩
    exact ⟨d, hd, List.mem_map.mpr ⟨c.2, h, by rw [← e]⟩⟩
/-- a clash stays where more are called -/
theorem bad_on {α : Type} {S : Sys α} (ok : S.Ok) {F m : List Nat} (hm : Bg S.n S.n m) (pre : F <+: m) {c : α × List Nat} (hc : c ∈ cls S.sg F.length) (hb : bad S F c = true) : c ∈ cls S.sg m.length ∧ bad S m c = true := by
  obtain ⟨d, hd, e, hr⟩ := cls_mem.mp hc
  obtain ⟨lr, rl⟩ := rows_of hr
  have le : F.length ≤ m.length := List.IsPrefix.length_le pre
  have lm := hm.len
  have hr2 : c.2 ∈ rows m.length d.2 := mem_rows lr fun k hk => Nat.lt_of_lt_of_le (rl k hk) le
  refine ⟨cls_mem.mpr ⟨d, hd, e, hr2⟩, ?_⟩
  have gp : ∀ k, k < F.length → g m k = g F k := fun k hk => by
    obtain ⟨r, rfl⟩ := pre
    show (F ++ r).getD k 0 = F.getD k 0
    rw [List.getD_eq_getElem?_getD, List.getD_eq_getElem?_getD, List.getElem?_append_left hk]
  have em : c.2.map (g m) = c.2.map (g F) := List.map_congr_left fun k hk => gp k (rl k hk)
  have ho := bg_ord.mp hm
  have hrn : c.2 ∈ rows S.n d.2 := by rw [← lm]; exact hr2
  have wl : g (S.ta c.1) (plc S.n c.2) < S.n := by rw [e]; exact ok_low (ok.pl d hd) (ok.a d hd) hrn
  unfold bad clsh at hb ⊢
  rw [if_pos (by rw [lm]; exact wl), em]
  by_cases z : g (S.ta c.1) (plc S.n c.2) < F.length
  · rw [if_pos z] at hb
    rw [gp _ z]
    exact hb
  · rw [if_neg z] at hb
    have mem := of_decide_eq_true hb
    obtain ⟨j, hj, ej⟩ := mem_g mem
    rw [← ej, ← gp j hj]
    rw [decide_eq_false]
    · rfl
    · intro y
      have := ho.inj _ _ wl (by omega) y
      omega
theorem fc_some {α : Type} {S : Sys α} {F : List Nat} {c : α × List Nat} (h : fc S F = some c) : c ∈ cls S.sg F.length ∧ bad S F c = true := ⟨List.mem_of_find?_eq_some h, List.find?_some h⟩
theorem fc_none {α : Type} {S : Sys α} {F : List Nat} : fc S F = none ↔ ∀ c ∈ cls S.sg F.length, bad S F c = false := by
  unfold fc
  rw [List.find?_eq_none]
  exact ⟨fun h c hc => Bool.eq_false_iff.mpr (h c hc), fun h c hc => Bool.eq_false_iff.mp (h c hc)⟩
theorem fc_on {α : Type} {S : Sys α} (ok : S.Ok) {F m : List Nat} (hm : Bg S.n S.n m) (pre : F <+: m) {c : α × List Nat} (h : fc S F = some c) : fc S m ≠ none := fun z => by
  obtain ⟨a, b⟩ := fc_some h
  obtain ⟨a2, b2⟩ := bad_on ok hm pre a b
  rw [fc_none.mp z c a2] at b2
  cases b2
/-- what going on tells -/
theorem go_right {α : Type} {S : Sys α} {f : List Nat → List Nat ⊕ PT α} {F : List Nat} {Good : List Nat → List Nat → Prop} {Bad : List Nat → PT α → Prop} :
    ∀ {xs : List Nat} {acc : List (PT α)}, (∀ x ∈ xs, ∀ m, f (F ++ [x]) = .inl m → Good (F ++ [x]) m) → (∀ x ∈ xs, ∀ t, f (F ++ [x]) = .inr t → Bad (F ++ [x]) t) →
      (∀ m, goOn f F xs acc = .inl m → ∃ x ∈ xs, Good (F ++ [x]) m) ∧ (∀ t, goOn f F xs acc = .inr t → ∃ ks, t = .case (acc ++ ks) ∧ ks.length = xs.length ∧ ∀ (i x : Nat) (t : PT α), ks[i]? = some t → xs[i]? = some x → Bad (F ++ [x]) t)
  | [], acc, _, _ => ⟨fun m h => (by cases h), fun t h => by
    cases Sum.inr.inj h
    exact ⟨[], by rw [List.append_nil], rfl, fun i x t h => (by cases h)⟩⟩
  | x :: xs, acc, hg, hb => by
    unfold goOn
    cases e : f (F ++ [x]) with
    | inl m =>
      refine ⟨fun m' h => ?_, fun t h => (by cases h)⟩
      cases Sum.inl.inj h
      exact ⟨x, List.mem_cons_self .., hg x (List.mem_cons_self ..) _ e⟩
    | inr t =>
      obtain ⟨a, b⟩ := go_right (S := S) (f := f) (F := F) (Good := Good) (Bad := Bad) (xs := xs) (acc := acc ++ [t]) (fun y hy => hg y (List.mem_cons_of_mem _ hy)) (fun y hy => hb y (List.mem_cons_of_mem _ hy))
      refine ⟨fun m h => ?_, fun t' h => ?_⟩
      · obtain ⟨y, hy, q⟩ := a m h
        exact ⟨y, List.mem_cons_of_mem _ hy, q⟩
      · obtain ⟨ks, e1, l, q⟩ := b t' h
        refine ⟨t :: ks, by rw [e1, List.append_assoc]; rfl, by rw [List.length_cons, List.length_cons, l], fun i y u h1 h2 => ?_⟩
        cases i with
        | zero =>
          cases Option.some.inj h1
          cases Option.some.inj h2
          exact hb x (List.mem_cons_self ..) _ e
        | succ i => exact q i y u h1 h2
theorem led_right {α : Type} {S : Sys α} (ok : S.Ok) : ∀ {k : Nat} {F : List Nat}, Bg S.n F.length F → F.length + k = S.n → (∀ m, led S k F = .inl m → Bg S.n S.n m ∧ F <+: m ∧ fc S m = none) ∧ (∀ t, led S k F = .inr t → Rt S F t ∧ ∀ m, Bg S.n S.n m → F <+: m → fc S m ≠ none)
  | 0, F, hF, e => by
    unfold led
    cases h : fc S F with
    | some c =>
      refine ⟨fun m z => (by cases z), fun t z => ?_⟩
      cases Sum.inr.inj z
      obtain ⟨a, b⟩ := fc_some h
      exact ⟨.clash a b, fun m hm pre => fc_on ok hm pre h⟩
    | none =>
      refine ⟨fun m z => ?_, fun t z => (by cases z)⟩
      cases Sum.inl.inj z
      rw [Nat.add_zero] at e
      exact ⟨by rw [e] at hF; exact hF, List.prefix_rfl, h⟩
  | k + 1, F, hF, e => by
    unfold led
    cases h : fc S F with
    | some c =>
      refine ⟨fun m z => (by cases z), fun t z => ?_⟩
      cases Sum.inr.inj z
      obtain ⟨a, b⟩ := fc_some h
      exact ⟨.clash a b, fun m hm pre => fc_on ok hm pre h⟩
    | none =>
      have step : ∀ x ∈ free S.n F, Bg S.n (F ++ [x]).length (F ++ [x]) ∧ (F ++ [x]).length + k = S.n := fun x hx => by
        obtain ⟨a, b⟩ := mem_free.mp hx
        have := hF.snoc a b
        rw [List.length_append]
        exact ⟨this, by show F.length + 1 + k = S.n; omega⟩
      obtain ⟨a, b⟩ := go_right (S := S) (f := led S k) (F := F) (xs := free S.n F) (acc := []) (Good := fun G m => Bg S.n S.n m ∧ G <+: m ∧ fc S m = none) (Bad := fun G t => Rt S G t ∧ ∀ m, Bg S.n S.n m → G <+: m → fc S m ≠ none)
        (fun x hx m z => (led_right ok (step x hx).1 (step x hx).2).1 m z) (fun x hx t z => (led_right ok (step x hx).1 (step x hx).2).2 t z)
      refine ⟨fun m z => ?_, fun t z => ?_⟩
      · obtain ⟨x, hx, q1, q2, q3⟩ := a m z
        exact ⟨q1, (List.prefix_append F [x]).trans q2, q3⟩
      · obtain ⟨ks, e1, l, q⟩ := b t z
        rw [List.nil_append] at e1
        subst e1
        refine ⟨.case (by omega) l fun i x t h1 h2 => (q i x t h1 h2).1, fun m hm pre => ?_⟩
        obtain ⟨r, er⟩ := id pre
        cases r with
        | nil =>
          rw [List.append_nil] at er
          have := hm.len
          rw [← er] at this
          omega
        | cons x r =>
          have nd := hm.nd
          rw [← er] at nd
          have nm : x ∉ F := fun z => (List.nodup_append.mp nd).2.2 x z x (List.mem_cons_self ..) rfl
          have lo : x < S.n := hm.low x (by rw [← er]; exact List.mem_append_right _ (List.mem_cons_self ..))
          obtain ⟨i, hi⟩ := List.mem_iff_getElem?.mp (mem_free.mpr ⟨lo, nm⟩)
          have il : i < ks.length := by rw [l]; exact (List.getElem?_eq_some_iff.mp hi).1
          exact (q i x _ (List.getElem?_eq_getElem il) hi).2 m hm ⟨r, by rw [List.append_assoc]; exact er⟩
/-- a whole order leads all just where no cell is odd -/
theorem fc_hom {α : Type} {S : Sys α} (ok : S.Ok) {m : List Nat} (hm : Bg S.n S.n m) : fc S m = none ↔ ∀ d ∈ S.sg, ren S.n d.2 m (S.ta d.1) = S.tb d.1 := by
  have ho := bg_ord.mp hm
  rw [fc_none]
  have key : ∀ d ∈ S.sg, ∀ r ∈ rows S.n d.2, bad S m (d.1, r) = false ↔ g m (g (S.ta d.1) (plc S.n r)) = g (S.tb d.1) (plc S.n (r.map (g m))) := fun d hd r hr => by
    have wl : g (S.ta d.1) (plc S.n r) < m.length := by rw [hm.len]; exact ok_low (ok.pl d hd) (ok.a d hd) hr
    unfold bad clsh
    rw [if_pos wl, Bool.not_eq_false', decide_eq_true_eq]
  constructor
  · intro h d hd
    exact (hom_ren (ok.pl d hd) ok.n1 (ok.a d hd) (ok.b d hd) ho).mpr fun r hr => (key d hd r hr).mp (h _ (cls_mem.mpr ⟨d, hd, rfl, by rw [hm.len]; exact hr⟩))
  · intro h c hc
    obtain ⟨d, hd, e, hr⟩ := cls_mem.mp hc
    rw [hm.len] at hr
    have := (key d hd c.2 hr).mpr ((hom_ren (ok.pl d hd) ok.n1 (ok.a d hd) (ok.b d hd) ho).mp (h d hd) c.2 hr)
    rw [← e] at this
    exact this
/-- no tree: some map; else none -/
theorem led_all {α : Type} {S : Sys α} (ok : S.Ok) : (∃ m, led S S.n [] = .inl m ∧ Ord S.n m ∧ ∀ d ∈ S.sg, ren S.n d.2 m (S.ta d.1) = S.tb d.1) ∨ ∃ t, led S S.n [] = .inr t ∧ Rt S [] t ∧ ∀ m, Ord S.n m → ¬ ∀ d ∈ S.sg, ren S.n d.2 m (S.ta d.1) = S.tb d.1 := by
  obtain ⟨a, b⟩ := led_right ok (k := S.n) (F := []) ⟨rfl, fun x z => (by cases z), List.nodup_nil⟩ (Nat.zero_add _)
  cases h : led S S.n [] with
  | inl m =>
    obtain ⟨q1, _, q3⟩ := a m h
    exact .inl ⟨m, rfl, bg_ord.mp q1, (fc_hom ok q1).mp q3⟩
  | inr t =>
    obtain ⟨q1, q2⟩ := b t h
    exact .inr ⟨t, rfl, q1, fun m hm z => q2 m (bg_ord.mpr hm) List.nil_prefix ((fc_hom ok (bg_ord.mpr hm)).mpr z)⟩
end LK
end
section
/-! two models are alike just where their least forms are one -/
namespace M25
open M20
end M25
end
section
/-! stacks, lists walked from behind, equal models, pairs and triples by what they hold -/
namespace Dw
open PySem PySem.Spec PyProof.Rows L2 Evl RZ
section
variable {K : PySem.W.Frag} {σ : L2.St} {H : Hp} {ta te : TE}
theorem do_pop {l : Addr} {xs : List V} {y : V} {Q : VK} (hl : H l = some (.lst (xs ++ [y]))) (ha : Ev ta σ H (.ref l)) (h : ∀ H1, Ex H H1 → Q y (upd H1 l (.lst xs))) : tBM0 K "list" rPop ta σ H Q := by
  refine ha H (Ex.refl H) _ fun H1 e1 => ⟨Or.inl ⟨rfl, _, sq_of (e1 l _ hl)⟩, l, _, y, rfl, rfl, e1 l _ hl, ?_, ?_⟩
  · rw [List.length_append, List.length_singleton, Nat.add_sub_cancel, List.getElem?_append_right (Nat.le_refl _), Nat.sub_self]
    rfl
  · rw [List.dropLast_concat]
    exact h H1 e1
theorem et_truL {l : Addr} {xs : List V} (h : Ev te σ H (.ref l)) (hl : SqL K H l xs) : EvT (fun σ H Q => te σ H fun x H' => ∃ k, TruV K x H' k ∧ Q k H') σ H (!xs.isEmpty) := fun H1 e Q q =>
  h H1 e _ fun H2 e2 => ⟨_, .inl ⟨xs, ex_l (e.trans e2) hl, rfl⟩, q H2 e2⟩
end
section
variable {σ : L2.St} {H : Hp}
theorem do_setG {te : TE} {g : TG} {tz : TS} {D : Ends} (h : te σ H fun x H1 => g x σ H1 fun σ2 H2 => tz D σ2 H2) : tSeq (tAsg te g) tz D σ H := h
theorem s_forRev {te : TE} {tu : TS} {D : Ends} {j n : Nat} (h : Ev te σ H (vi n)) (hn : n ≤ 1000) (Pv : Nat → L2.St → Hp → Prop) (h0 : ∀ H1, Ex H H1 → Pv 0 σ H1)
    (hs : ∀ i σ' H', i < n → Pv i σ' H' → tu { D with nx := Pv (i + 1), ct := Pv (i + 1), bk := D.nx } (σ'.set j (some (vi (n - 1 - i)))) H') (hd : ∀ σ' H', Pv n σ' H' → D.nx σ' H') : tFor (iRevR (tRg1 te)) (gName j) tu D σ H := by
  refine h H (Ex.refl H) _ fun H1 e => ⟨(n : Int), rfl, by omega, by omega, by omega, by omega, ?_⟩
  have z : ((n : Int) - 0).toNat = n := by omega
  rw [z]
  refine for_it (walk_rangeC (lo := (0 : Int) + (n : Int) - 1) (c := -1) (n := n)) Pv (h0 H1 e) (fun _ _ _ _ _ => trivial) (fun i x σ' H2 H3 hi p y => ?_) hd
  obtain ⟨e1, e2⟩ := y
  subst e1
  have e3 : x = vi (n - 1 - i) := by
    rw [e2]
    show V.int _ = V.int (((n - 1 - i : Nat)) : Int)
    congr 1
    omega
  subst e3
  exact hs i σ' H3 hi p
end
theorem paired_last {α β : Type} {R : α → β → Prop} : ∀ {xs : List α} {ys : List β}, Paired R xs ys → ys ≠ [] → ∃ as a bs b, xs = as ++ [a] ∧ ys = bs ++ [b] ∧ Paired R as bs ∧ R a b
  | [], [], .nil, h => absurd rfl h
  | [x], [y], .cons r .nil, _ => ⟨[], x, [], y, rfl, rfl, .nil, r⟩
  | x :: x2 :: xs, y :: y2 :: ys, .cons r t, _ => by
    obtain ⟨as, a, bs, b, e1, e2, p, q⟩ := paired_last t (by simp)
    exact ⟨x :: as, a, y :: bs, b, by rw [e1]; rfl, by rw [e2]; rfl, .cons r p, q⟩
section
variable {K : PySem.W.Frag} {σ : L2.St} {H : Hp} {t1 t2 t3 ta tb te : TE} {P1 P2 P3 : V → Hp → Prop}
theorem ep_tup3 (h1 : EvP t1 σ H P1) (h2 : EvP t2 σ H P2) (h3 : EvP t3 σ H P3) (k1 : ∀ v H H', Ex H H' → P1 v H → P1 v H') (k2 : ∀ v H H', Ex H H' → P2 v H → P2 v H') (k3 : ∀ v H H', Ex H H' → P3 v H → P3 v H') : EvP (tTup (tCons t1 (tCons t2 (tCons t3 tNil)))) σ H (fun v H' => ∃ p a b c, v = .ref p ∧ SqT K H' p [a, b, c] ∧ P1 a H' ∧ P2 b H' ∧ P3 c H') := fun H1 e Q q =>
  do_tup (do_cons (h1 H1 e _ fun u H2 e2 hu => do_cons (h2 H2 (e.trans e2) _ fun w H3 e3 hw => do_cons (h3 H3 ((e.trans e2).trans e3) _ fun x H4 e4 hx => do_nil ⟨by show 3 ≤ sizeLine; decide, fun p np => q _ _ (((e2.trans e3).trans e4).trans (Ex.new np)) ⟨p, u, w, x, rfl, st_of upd_same, k1 _ _ _ ((e3.trans e4).trans (Ex.new np)) hu, k2 _ _ _ (e4.trans (Ex.new np)) hw, k3 _ _ _ (Ex.new np) hx⟩⟩))))
/-- == of data -/
theorem ev_eqDP {a b : PyData} (ha : EvP ta σ H P1) (hb : EvP tb σ H P2) (k1 : ∀ v H H', Ex H H' → P1 v H → P1 v H') (d1 : ∀ v H', P1 v H' → Dp K H' v a) (d2 : ∀ v H', P2 v H' → Dp K H' v b) {k W : Nat} (g1 : Gd k W a) (g2 : Gd k W b) (l : k ≤ 60) : Ev (tOp (rEqD K) ta tb) σ H (.bl (PyData.eqv a b)) := fun H1 e Q q =>
  do_op (ha H1 e _ fun v H2 e2 hv => hb H2 (e.trans e2) _ fun u H3 e3 hu => ⟨a, b, d1 _ _ (k1 _ _ _ e3 hv), d2 _ _ hu, g1.shaped l, g2.shaped l, q H3 (e2.trans e3)⟩)
end
theorem eqv_rows : ∀ a b : List (List Nat), PyData.eqvAll (a.map dN) (b.map dN) = decide (a = b)
  | [], [] => by simp [PyData.eqvAll]
  | [], _ :: _ => by simp [PyData.eqvAll]
  | _ :: _, [] => by simp [PyData.eqvAll]
  | x :: a, y :: b => by
    rw [List.map_cons, List.map_cons, PyData.eqvAll, eqv_rows a b, eqv_dN]
    by_cases h : x = y
    · subst h
      by_cases h2 : a = b
      · subst h2
        simp
      · simp [h2]
    · simp [h]
def dT (ts : List (List Nat)) : PyData := .tuple (ts.map dN)
theorem eqv_dT (a b : List (List Nat)) : PyData.eqv (dT a) (dT b) = decide (a = b) := by
  unfold dT
  rw [PyData.eqv]
  exact eqv_rows a b
theorem eqv_dM (n m : Nat) (a b : List (List Nat)) : PyData.eqv (dM n a) (dM m b) = decide (n = m ∧ a = b) := by
  unfold dM
  rw [PyData.eqv, PyData.eqvAll, PyData.eqvAll, PyData.eqvAll]
  show (PyData.eqv (.int (n : Int)) (.int (m : Int)) && (PyData.eqv (dT a) (dT b) && true)) = _
  rw [eqv_dT, PyData.eqv]
  by_cases h : n = m
  · subst h
    simp
  · have : ((n : Nat) : Int) ≠ ((m : Nat) : Int) := fun z => h (Int.ofNat.inj z)
    simp [h, this]
theorem Tabs.dp {K : PySem.W.Frag} {H : Hp} {v : V} {ts : List (List Nat)} (h : Tabs K H v ts) : Dp K H v (dT ts) := by
  obtain ⟨a, vs, rfl, s, p⟩ := h
  exact .tup s (dps_paired (fun _ _ z => Nats.dp z) p)
theorem gd_dT {ts : List (List Nat)} (h : ∀ t ∈ ts, (∀ k ∈ t, k ≤ 1000) ∧ t.length ≤ 36) (l : ts.length ≤ 4) : Gd 2 1588 (dT ts) := gd_tup (k := 1) (W := 396) (L := 4) (fun d hd => by
  obtain ⟨t, ht, rfl⟩ := List.mem_map.mp hd
  exact gd_nats (h t ht).1 (h t ht).2) (by rw [List.length_map]; exact l)
/-- a pair, weighed exactly -/
theorem gd_pair {k A B : Nat} {a b : PyData} (ha : Gd k A a) (hb : Gd k B b) : Gd (k + 1) (A + B + 2) (.tuple [a, b]) := by
  have z := gd_tup (k := k) (W := max A B) (L := 2) (ds := [a, b]) (fun d hd => by
    rcases List.mem_cons.mp hd with rfl | hd
    · exact ha.mono (Nat.le_refl _) (Nat.le_max_left ..)
    · rw [List.mem_singleton.mp hd]
      exact hb.mono (Nat.le_refl _) (Nat.le_max_right ..)) (Nat.le_refl _)
  refine ⟨z.lay, z.dep, ?_, z.its, z.sho⟩
  unfold PyData.weight
  unfold PyData.weightAll
  unfold PyData.weightAll
  unfold PyData.weightAll
  have := ha.wgt
  have := hb.wgt
  omega
end Dw
end
section
/-! sorted(a tuple of numbers) -/
namespace Dw
open PySem PySem.Spec PyProof.Rows L2 Evl
section
variable {prog : Program} {w : World} {A : Around} {E : Value → Shared → Prop} {s : Shared}
/-- a tuple's things, taken into a list of their own -/
theorem collect_tup {l : Addr} {vs : List Value} {o : Obj} {n : Nat} {Q : List Value → Shared → Prop} (ho : s.heap.get? l = some o) (hc : o.cls = .type "tuple") (hd : o.data = .seq vs.toArray n) (hz : vs.length ≤ sizeLine)
    (q : Q vs { s with heap := (s.heap.push (seqObj "list" #[] 0)).update s.heap.objs.size (Obj.mapSeq (· ++ vs.toArray)) }) : wpAny (model prog w) A (collect (.ref l)) Q E s := by
  have h1 : (s.heap.push (seqObj "list" #[] 0)).get? l = some o := Heap.get?_push_of_some _ ho
  have h2 : (s.heap.push (seqObj "list" #[] 0)).get? s.heap.objs.size = some (seqObj "list" #[] 0) := Heap.get?_push_size _ rfl
  have te : ((Value.type "tuple") == (Value.type "tuple")) = true := rfl
  unfold collect
  refine wpAny_bind (wpAny_runValue (codeAny_builtin entry_proto_collect' ?_))
  show wpAny _ _ (do again (.builtin "list.__iadd__" ⟨[← newList [], .ref l], []⟩)) _ _ s
  refine wpAny_bind (wpAny_newList (wpAny_pure ⟨Code.quiet_builtin _ (by decide +kernel), codeAny_builtin entry_list_iadd' ?_⟩))
  show wpAny _ _ (Builtin.List.listExtendWith (.ref s.heap.objs.size) (.ref l) (.ref s.heap.objs.size)) _ _ { s with heap := s.heap.push (seqObj "list" #[] 0) }
  unfold Builtin.List.listExtendWith
  refine wpAny_bind (wpAny_typeOf (T := "tuple") ⟨o, h1, hc⟩ ?_)
  rw [if_pos (by rw [te]; simp)]
  refine wpAny_bind (listItems_at h1 hd ?_)
  refine wpAny_bind (listItems_at (xs := #[]) (n := 0) h2 rfl ?_)
  rw [if_neg (by simp)]
  refine wpAny_bind (listUpdate_at (xs := #[]) (n := 0) h2 rfl ?_ (Nat.zero_le _) (by
    show (#[] ++ vs.toArray).size ≤ sizeLine + 1
    simp only [Array.size_append, List.size_toArray, List.length_nil]
    omega))
  refine wpAny_pure ?_
  show wpAny (model prog w) A (do
      let o ← load s.heap.objs.size
      match o.data with
      | .seq xs _ => pure xs.toList
      | _ => unsupported "internal:collect") Q E _
  refine wpAny_bind (wpAny_load (get?_update_seq h2 _) ?_)
  have ev : ((#[] : Array Value) ++ vs.toArray).toList = vs := by simp
  show wpAny _ _ (pure ((#[] : Array Value) ++ vs.toArray).toList) Q E _
  rw [ev]
  exact wpAny_pure q
/-- sorted of a tuple of ints: its things in a new list, that list sorted -/
theorem sorted_tup {l : Addr} {vs : List Value} {ns : List Int} {o : Obj} {n : Nat} {Q : Value → Shared → Prop} (ho : s.heap.get? l = some o) (hc : o.cls = .type "tuple") (hd : o.data = .seq vs.toArray n) (hz : vs.length ≤ sizeLine) (hi : IntsAre vs ns)
    (h : ∀ out : List Value, SrtO.Srtd SrtO.ltIv out → SrtO.Stb SrtO.ltIv out vs → Q (.ref (s.heap.objs.size + 1)) { s with heap := sortedAll s.heap vs out.toArray }) : wpAny (model prog w) A (call (.builtin "sorted") [.ref l]) Q E s := by
  have hs1 : ((s.heap.push (seqObj "list" #[] 0)).update s.heap.objs.size (Obj.mapSeq (· ++ vs.toArray))).objs.size = s.heap.objs.size + 1 := by rw [Heap.size_update, size_push']
  have hnew : (((s.heap.push (seqObj "list" #[] 0)).update s.heap.objs.size (Obj.mapSeq (· ++ vs.toArray))).push (seqObj "list" vs.toArray 0)).get? (s.heap.objs.size + 1) = some (seqObj "list" vs.toArray 0) := by
    rw [← hs1]
    exact Heap.get?_push_size _ rfl
  refine Calls.call_function_entry kind_sorted plain_sorted entry_sorted (args_sorted1 _) ?_
  unfold Builtin.«sorted»
  refine wpAny_bind (m := checkCount "sorted" 1 1 _) (wpAny_pure ?_)
  refine wpAny_bind (collect_tup ho hc hd hz ?_)
  refine wpAny_bind (wpAny_newList ?_ hz)
  show wpAny _ _ _ _ _ { s with heap := ((s.heap.push (seqObj "list" #[] 0)).update s.heap.objs.size (Obj.mapSeq (· ++ vs.toArray))).push (seqObj "list" vs.toArray 0) }
  rw [hs1]
  refine wpAny_bind (wpAny_holding (wpAny_call_entry slot_list_sort ⟨_, hnew, rfl⟩ entry_list_sort (SrtO.list_sort_ord SrtO.swo_int hnew hz (fun h2 => SrtO.ints_sortable hi h2) fun out a b => ⟨_, rfl, ?_⟩) (args_list_sort _)))
  exact wpAny_pure ⟨_, rfl, h out a b⟩
end
/-- sorted(a tuple of numbers) -/
def rSortedT (K : PySem.W.Frag) : List V → Hp → VK → Prop := fun vs H Q => ∃ (a : Addr) (ns : List Int), vs = [.ref a] ∧ SqT K H a (ns.map V.int) ∧ ∀ (ns' : List Int) (p : Addr), ns'.Perm ns → ns'.Pairwise (· ≤ ·) → H p = none → Q (.ref p) (upd H p (.lst (ns'.map V.int)))
theorem cr_sortedT {X : Cx} : CallR X (.builtin "sorted") (rSortedT X.K) := by
  intro pins s σ H vs us Q I r h
  obtain ⟨a, ns, rfl, hs, q⟩ := h
  obtain ⟨its, rv, ⟨⟨cls, dd, data, sl⟩, ho, hc, n, hd⟩, hz⟩ := I.tuple hs
  rw [Vals.ref1 r]
  have hi := Vals.ints rv
  have hl : its.length ≤ sizeLine := by rw [← rv.length]; exact hz
  refine sorted_tup ho hc hd hl hi fun out h1 h2 => ?_
  obtain ⟨k1, k2, k3⟩ := SrtO.ints_out hi h1 h2
  obtain ⟨ep, he⟩ := sortedAll_at s.heap its out.toArray
  have hlen : ((out.map SrtO.iv).map V.int).length ≤ sizeLine := by
    rw [List.length_map, k2.length_eq]
    rw [List.length_map] at hz
    exact hz
  exact ⟨.ref _, upd H (s.heap.objs.size + 1) (.lst ((out.map SrtO.iv).map V.int)), I.laid (t' := s.toks) (fun _ _ => sortedAll_old) (Nat.le_succ _) ⟨hlen, out, ep, vals_of_ints k1, he⟩, rfl, q _ _ k2 k3 (I.hok.fresh (Nat.le_succ _))⟩
end Dw
end
section
/-! C(..) whose __init__ may raise, in a try -/
namespace Dw
open PySem PySem.Spec PyProof.Rows L2 Evl
section
variable {X : Cx} {CX : CXT} {k : Nat} {f C : Addr} {fd : FuncData} {ps : List Str} {sp : Sp} {x : Str} {p pos : Pos} {e : Expr} {es : List Expr} {t : TA}
end
end Dw
end
section
/-! a class's __init__ by its promise -/
namespace Dw
open PySem PySem.Spec PyProof.Rows L2 Evl
end Dw
end
section
/-! repr of a dict of data that may hold lists -/
namespace Dw
open PySem PySem.Spec PyProof.Rows L2 Evl
section
variable {X : Cx} {pins : List (Addr × Obj)} {σ : L2.St} {H : Hp} {s : Shared}
end
end Dw
end
section
/-! tuple * int where the tuple may be empty -/
namespace Dw
open PySem PySem.Spec PyProof.Rows L2 Evl
theorem tuple_mulE (l : Addr) (items : Array Value) (n : Nat) (dd : Option Addr) (sl : Array (Option Value)) (x : Int) (u : Tok) (h0 : -10 ≤ x) (h1 : x ≤ 1000) (em : items.isEmpty = true) :
    Meets (Builtin.«tuple.__mul__» ⟨[.ref l, .int x u], []⟩) (fun _ R s => s.heap.get? l = some { cls := .type "tuple", dict := dd, data := .seq items n, slots := sl } ∧ R (.ok (.ret (Value.ref l))) s) :=
  .of_wp fun prog w A R s h => by
    obtain ⟨hp, g, d, tk, os⟩ := s
    obtain ⟨hl, h⟩ := h
    have f1 := AutoSeq1.idx_int
    have c0 : (decide (x < -(2 ^ 63)) || decide (x ≥ 2 ^ 63)) = false := by
      rw [decide_eq_false (by omega), decide_eq_false (by omega)] <;> rfl
    have c1 : (items.isEmpty || x == 1) = true := by
      rw [em]
      rfl
    wp_walk using wpAny_loadPart' hl
    repeat (first
      | (refine wpAny_ite_false (decide_eq_false (by rw [c0]; exact Bool.false_ne_true)) ?_; wp_walk using wpAny_loadPart' hl)
      | (refine wpAny_ite_true (decide_eq_true (by rw [c1])) ?_; wp_walk using wpAny_loadPart' hl))
    exact ⟨_, rfl, h⟩
/-- tuple * int: of nothing, itself -/
def rRepTE (K : PySem.W.Frag) : R2 := fun x y H Q => rRepTA K x y H Q ∨ ∃ l k, x = .ref l ∧ y = .int k ∧ SqT K H l [] ∧ -10 ≤ k ∧ k ≤ 1000 ∧ Q (.ref l) H
theorem op_repTE {X : Cx} : OpR X (binaryOp .Mult) (rRepTE X.K) := by
  intro pins s σ H x y v u Q I rx ry h
  rcases h with h | ⟨l, k, rfl, rfl, hT, h0, h1, q⟩
  · exact op_repTA pins s σ H x y v u Q I rx ry h
  · cases rx
    obtain ⟨t, rfl⟩ := ry
    obtain ⟨its, r, ⟨⟨cls, dd, data, sl⟩, ho, hc, n, hd⟩, hs⟩ := I.tuple hT
    simp only at hc hd
    subst hc hd
    have hle : its.length = 0 := r.length.symm
    have hi : its.toArray.isEmpty = true := by
      cases its with
      | nil => rfl
      | cons a b => cases hle
    exact wpAny_binaryOp_repeat_ref (T := "tuple") (U := "int") (by decide) ⟨_, ho, rfl⟩ (fun s' => typeIs_int s' k t) noFill_tuple_mul F.fills_int_mul F.slot_int_rmul repeat_tuple F.slot_int_index.lookup
      (call_meets F.slot_int_rmul (typeIs_int s k t) F.entry_int_rmul (F.args_int_rmul_2 _ _) (int_rmul_tuple k t l its.toArray n dd sl)
        ⟨ho, rfl, ⟨_, ho, rfl⟩, call_meets F.slot_tuple_mul ⟨_, ho, rfl⟩ F.entry_tuple_mul (F.args_tuple_mul_2 _ _) (tuple_mulE l its.toArray n dd sl k t h0 h1 hi) ⟨ho, ⟨.ref l, H, I, rfl, q⟩⟩⟩)
end Dw
end
section
namespace K22
open PySem PySem.Spec PyProof.Rows L2 Evl Dw M20
open C8 (fnScope_by)
/-! ### the text -/
def topS (i : Nat) : Stmt := PySem.Challenge.pw_deedworlds_k22_likeness_judged.main.body.getD i (.Pass ⟨0, 0, 0, 0⟩)
abbrev s_is_whole : Stmt := topS 1
theorem sc_is_whole : FnScope ["thing"] ["thing"] (defScope s_is_whole) := fnScope_by (by decide +kernel)
abbrev s_is_below : Stmt := topS 2
theorem sc_is_below : FnScope ["thing", "size"] ["thing", "size"] (defScope s_is_below) := fnScope_by (by decide +kernel)
abbrev s_is_row : Stmt := topS 3
theorem sc_is_row : FnScope ["thing", "many", "size", "number"] ["thing", "many", "size"] (defScope s_is_row) := fnScope_by (by decide +kernel)
abbrev s_are_unlike_below : Stmt := topS 4
theorem sc_are_unlike_below : FnScope ["things", "size", "met", "number"] ["things", "size"] (defScope s_are_unlike_below) := fnScope_by (by decide +kernel)
abbrev s_power : Stmt := topS 5
theorem sc_power : FnScope ["base", "many", "told", "step"] ["base", "many"] (defScope s_power) := fnScope_by (by decide +kernel)
abbrev s_rows_below : Stmt := topS 6
theorem sc_rows_below : FnScope ["size", "many", "rows", "step", "row", "number"] ["size", "many"] (defScope s_rows_below) := fnScope_by (by decide +kernel)
abbrev s_place_of_row : Stmt := topS 7
theorem sc_place_of_row : FnScope ["size", "row", "place", "number"] ["size", "row"] (defScope s_place_of_row) := fnScope_by (by decide +kernel)
abbrev s_table_of : Stmt := topS 13
theorem sc_table_of : FnScope ["signature", "tables", "name", "deed", "table"] ["signature", "tables", "name"] (defScope s_table_of) := fnScope_by (by decide +kernel)
abbrev s_is_name : Stmt := topS 20
theorem sc_is_name : FnScope ["thing", "sign"] ["thing"] (defScope s_is_name) := fnScope_by (by decide +kernel)
abbrev s_is_deed : Stmt := topS 21
theorem sc_is_deed : FnScope ["thing"] ["thing"] (defScope s_is_deed) := fnScope_by (by decide +kernel)
abbrev s_signature_wrong : Stmt := topS 22
theorem sc_signature_wrong : FnScope ["thing", "k", "deed", "names", "name"] ["thing"] (defScope s_signature_wrong) := fnScope_by (by decide +kernel)
abbrev s_need_signature : Stmt := topS 23
theorem sc_need_signature : FnScope ["signature"] ["signature"] (defScope s_need_signature) := fnScope_by (by decide +kernel)
abbrev s_is_size : Stmt := topS 25
theorem sc_is_size : FnScope ["thing"] ["thing"] (defScope s_is_size) := fnScope_by (by decide +kernel)
abbrev s_first_odd_cell : Stmt := topS 26
theorem sc_first_odd_cell : FnScope ["size", "tables", "k", "table", "at", "number"] ["size", "tables"] (defScope s_first_odd_cell) := fnScope_by (by decide +kernel)
abbrev s_model_wrong : Stmt := topS 27
theorem sc_model_wrong : FnScope ["signature", "thing", "size", "tables", "k", "deed", "odd"] ["signature", "thing"] (defScope s_model_wrong) := fnScope_by (by decide +kernel)
abbrev s_need_model : Stmt := topS 28
theorem sc_need_model : FnScope ["signature", "model"] ["signature", "model"] (defScope s_need_model) := fnScope_by (by decide +kernel)
abbrev s_need_two_models : Stmt := topS 29
theorem sc_need_two_models : FnScope ["signature", "one", "other"] ["signature", "one", "other"] (defScope s_need_two_models) := fnScope_by (by decide +kernel)
abbrev s_is_order : Stmt := topS 31
theorem sc_is_order : FnScope ["thing", "size"] ["thing", "size"] (defScope s_is_order) := fnScope_by (by decide +kernel)
abbrev s_turned_back : Stmt := topS 32
theorem sc_turned_back : FnScope ["order", "back", "number", "called"] ["order"] (defScope s_turned_back) := fnScope_by (by decide +kernel)
abbrev s_renamed_table : Stmt := topS 33
theorem sc_renamed_table : FnScope ["size", "places", "table", "order", "back", "number", "one", "other"] ["size", "places", "table", "order"] (defScope s_renamed_table) := fnScope_by (by decide +kernel)
abbrev s_renamed_tables : Stmt := topS 34
theorem sc_renamed_tables : FnScope ["signature", "size", "tables", "order", "told", "name", "places", "table"] ["signature", "size", "tables", "order"] (defScope s_renamed_tables) := fnScope_by (by decide +kernel)
abbrev s_clashes : Stmt := topS 36
theorem sc_clashes : FnScope ["signature", "one", "other", "images", "name", "numbers", "size", "worth", "called", "there", "number"] ["signature", "one", "other", "images", "name", "numbers"] (defScope s_clashes) := fnScope_by (by decide +kernel)
abbrev s_first_clash : Stmt := topS 37
theorem sc_first_clash : FnScope ["signature", "one", "other", "images", "name", "places", "numbers"] ["signature", "one", "other", "images"] (defScope s_first_clash) := fnScope_by (by decide +kernel)
abbrev s_led_from : Stmt := topS 38
theorem sc_led_from : FnScope ["signature", "one", "other", "images", "clash", "trees", "number", "told"] ["signature", "one", "other", "images"] (defScope s_led_from) := fnScope_by (by decide +kernel)
abbrev s_likeness : Stmt := topS 39
theorem sc_likeness : FnScope ["signature", "one", "other"] ["signature", "one", "other"] (defScope s_likeness) := fnScope_by (by decide +kernel)
abbrev s_has_paper_form : Stmt := topS 40
theorem sc_has_paper_form : FnScope ["paper"] ["paper"] (defScope s_has_paper_form) := fnScope_by (by decide +kernel)
abbrev s_is_case : Stmt := topS 41
theorem sc_is_case : FnScope ["size", "images", "tree", "left"] ["size", "images", "tree"] (defScope s_is_case) := fnScope_by (by decide +kernel)
abbrev s_is_clash : Stmt := topS 42
theorem sc_is_clash : FnScope ["signature", "one", "other", "images", "tree", "name", "numbers", "many", "deed"] ["signature", "one", "other", "images", "tree"] (defScope s_is_clash) := fnScope_by (by decide +kernel)
abbrev s_first_odd_place : Stmt := topS 43
theorem sc_first_odd_place : FnScope ["signature", "one", "other", "tree", "todo", "path", "images", "here", "left", "k", "number"] ["signature", "one", "other", "tree"] (defScope s_first_odd_place) := fnScope_by (by decide +kernel)
abbrev s_leads_there : Stmt := topS 44
theorem sc_leads_there : FnScope ["signature", "one", "other", "order"] ["signature", "one", "other", "order"] (defScope s_leads_there) := fnScope_by (by decide +kernel)
abbrev s_likeness_judged : Stmt := topS 45
theorem sc_likeness_judged : FnScope ["signature", "one", "other", "paper", "path"] ["signature", "one", "other", "paper"] (defScope s_likeness_judged) := fnScope_by (by decide +kernel)
abbrev s_purse : Stmt := topS 47
theorem sc_purse : FnScope ["_law_script", "_law_cells", "_law_k"] ["_law_script"] (defScope s_purse) := fnScope_by (by decide +kernel)
abbrev s_draw : Stmt := topS 48
theorem sc_draw : FnScope ["_law_purse_here", "_law_out_of", "_law_cells", "_law_turn", "_law_at", "_law_cell", "_law_number", "_law_other"] ["_law_purse_here", "_law_out_of"] (defScope s_draw) := fnScope_by (by decide +kernel)
abbrev s__law_pick : Stmt := topS 49
theorem sc__law_pick : FnScope ["_law_purse_here", "_law_things"] ["_law_purse_here", "_law_things"] (defScope s__law_pick) := fnScope_by (by decide +kernel)
abbrev s_mixed : Stmt := topS 50
theorem sc_mixed : FnScope ["_law_purse_here", "_law_things", "_law_found_here", "_law_thing"] ["_law_purse_here", "_law_things"] (defScope s_mixed) := fnScope_by (by decide +kernel)
abbrev s_sgn : Stmt := topS 51
theorem sc_sgn : FnScope ["_law_purse_here", "_law_most", "_law_names_here", "_law_some_here", "_law_k"] ["_law_purse_here", "_law_most"] (defScope s_sgn) := fnScope_by (by decide +kernel)
abbrev s_tbl : Stmt := topS 52
theorem sc_tbl : FnScope ["_law_purse_here", "_law_size", "_law_places", "_law_way_here", "_law_turned_here", "_law_by", "_law_brought", "_law_k", "_law_one", "_law_other", "_law_some_here"] ["_law_purse_here", "_law_size", "_law_places"] (defScope s_tbl) := fnScope_by (by decide +kernel)
abbrev s_mdl : Stmt := topS 53
theorem sc_mdl : FnScope ["_law_purse_here", "_law_signature_here", "_law_size", "_law_name", "_law_places"] ["_law_purse_here", "_law_signature_here", "_law_size"] (defScope s_mdl) := fnScope_by (by decide +kernel)
abbrev s_ordr : Stmt := topS 54
theorem sc_ordr : FnScope ["_law_purse_here", "_law_size"] ["_law_purse_here", "_law_size"] (defScope s_ordr) := fnScope_by (by decide +kernel)
abbrev s_led : Stmt := topS 55
theorem sc_led : FnScope ["_law_signature_here", "_law_model_here", "_law_order_here", "_law_size", "_law_tables", "_law_found_here", "_law_name", "_law_places", "_law_table_here", "_law_brought", "_law_k", "_law_spot"] ["_law_signature_here", "_law_model_here", "_law_order_here"] (defScope s_led) := fnScope_by (by decide +kernel)
abbrev s__law_is_clash : Stmt := topS 57
theorem sc__law_is_clash : FnScope ["_law_signature_here", "_law_one", "_law_other", "_law_images", "_law_tree_here", "_law_titles", "_law_k", "_law_here", "_law_there", "_law_number", "_law_brought", "_law_moved", "_law_name", "_law_places"] ["_law_signature_here", "_law_one", "_law_other", "_law_images", "_law_tree_here"] (defScope s__law_is_clash) := fnScope_by (by decide +kernel)
abbrev s__law_path : Stmt := topS 58
theorem sc__law_path : FnScope ["_law_signature_here", "_law_one", "_law_other", "_law_images", "_law_tree_here", "_law_path_here", "_law_free", "_law_k", "_law_found_here", "_law_number"] ["_law_signature_here", "_law_one", "_law_other", "_law_images", "_law_tree_here", "_law_path_here"] (defScope s__law_path) := fnScope_by (by decide +kernel)
abbrev s__law_due : Stmt := topS 59
theorem sc__law_due : FnScope ["_law_signature_here", "_law_one", "_law_other", "_law_paper", "_law_order_here", "_law_path_here", "_law_number"] ["_law_signature_here", "_law_one", "_law_other", "_law_paper"] (defScope s__law_due) := fnScope_by (by decide +kernel)
abbrev s__law_tree : Stmt := topS 60
theorem sc__law_tree : FnScope ["_law_purse_here", "_law_signature_here", "_law_size", "_law_many", "_law_deep", "_law_name", "_law_places", "_law_k"] ["_law_purse_here", "_law_signature_here", "_law_size", "_law_many", "_law_deep"] (defScope s__law_tree) := fnScope_by (by decide +kernel)
abbrev s__law_odd_ones : Stmt := topS 61
theorem sc__law_odd_ones : FnScope ["_law_purse_here", "_law_signature_here", "_law_tree_here", "_law_name", "_law_places", "_law_odd", "_law_truths", "_law_number"] ["_law_purse_here", "_law_signature_here", "_law_tree_here"] (defScope s__law_odd_ones) := fnScope_by (by decide +kernel)
abbrev s__law_bent : Stmt := topS 62
theorem sc__law_bent : FnScope ["_law_purse_here", "_law_signature_here", "_law_tree_here", "_law_odd", "_law_trees", "_law_at", "_law_way_here", "_law_some"] ["_law_purse_here", "_law_signature_here", "_law_tree_here"] (defScope s__law_bent) := fnScope_by (by decide +kernel)
abbrev s__law_papers : Stmt := topS 63
theorem sc__law_papers : FnScope ["_law_purse_here", "_law_signature_here", "_law_one", "_law_other", "_law_told_here", "_law_order_here", "_law_truths", "_law_some_here", "_law_k", "_law_tree_here", "_law_number", "_law_odd"] ["_law_purse_here", "_law_signature_here", "_law_one", "_law_other"] (defScope s__law_papers) := fnScope_by (by decide +kernel)
abbrev s_turned : Stmt := topS 64
theorem sc_turned : FnScope ["_law_purse_here", "_law_signature_here", "_law_model_here", "_law_size", "_law_tables", "_law_k", "_law_table_here"] ["_law_purse_here", "_law_signature_here", "_law_model_here"] (defScope s_turned) := fnScope_by (by decide +kernel)
abbrev s_law : Stmt := topS 65
theorem sc_law : FnScope ["_law_script", "_law_purse_here", "_law_time", "_law_signature_here", "_law_size", "_law_one", "_law_other", "_law_way_here", "_law_paper", "_law_kept"] ["_law_script"] (defScope s_law) := fnScope_by (by decide +kernel)
/-- what the module's names hold -/
structure Txt (mg : Str → Option Value) : Prop where
  z_abs : mg "abs" = none
  z_all : mg "all" = none
  z_bool : mg "bool" = none
  z_enumerate : mg "enumerate" = none
  z_int : mg "int" = none
  z_isinstance : mg "isinstance" = none
  z_len : mg "len" = none
  z_list : mg "list" = none
  z_max : mg "max" = none
  z_min : mg "min" = none
  z_range : mg "range" = none
  z_repr : mg "repr" = none
  z_reversed : mg "reversed" = none
  z_sorted : mg "sorted" = none
  z_str : mg "str" = none
  z_tuple : mg "tuple" = none
  z_zip : mg "zip" = none
  z_set : mg "set" = none
  c_NAME_LETTERS : ∃ t, mg "NAME_LETTERS" = some (.str "abcdefghijklmnopqrst" t)
  c_MOST_NAME : ∃ t, mg "MOST_NAME" = some (.int 4 t)
  c_MOST_DEEDS : ∃ t, mg "MOST_DEEDS" = some (.int 4 t)
  c_MOST_PLACES : ∃ t, mg "MOST_PLACES" = some (.int 2 t)
  c_MOST_SIZE : ∃ t, mg "MOST_SIZE" = some (.int 6 t)
section
variable {X : Cx} {x : Str} {pos : Pos}
theorem pe_gi {i : Int} (hg : Gl X x) (h : ∃ t, X.mg x = some (.int i t)) (hn : x ≠ "__name__" := by decide) (hd : (x == ("__debug__" : Str)) = false := by decide) : PE X (.Name x pos) (tC (.int i)) := by
  obtain ⟨t, e⟩ := h
  exact pe_glob hg e ⟨t, rfl⟩ (hd := hd)
theorem pe_gs {z : Str} (hg : Gl X x) (h : ∃ t, X.mg x = some (.str z t)) (hn : x ≠ "__name__" := by decide) (hd : (x == ("__debug__" : Str)) = false := by decide) : PE X (.Name x pos) (tC (.str z)) := by
  obtain ⟨t, e⟩ := h
  exact pe_glob hg e ⟨t, rfl⟩ (hd := hd)
theorem pe_ty (n : String) (hg : Gl X x) (hm : X.mg x = none) (hv : bootBuiltins x = some (.type n)) (hn : x ≠ "__name__" := by decide) (hd : (x == ("__debug__" : Str)) = false := by decide) : PE X (.Name x pos) (tC (.ty n)) := pe_bltn hg hm hv rfl (hn := hn) (hd := hd)
theorem ip_mul : PIp X .Mult (rI CMul fun i j => .int (i * j)) := iop_mul
end
section
variable {P : Program} {w : World} {K : PySem.W.Frag} {mg : Str → Option Value} {base : Heap}
/-! ### is_whole, is_below, power -/
def sp_is_whole : Sp := spX (fun (i : Int) vs _ => vs = [.int i]) (fun _ v _ => v = .bl true)
theorem c_is_whole (T : Txt mg) (D : Df K mg "is_whole" s_is_whole ["thing"]) : Cl P w K mg base 1 "is_whole" sp_is_whole := by
  refine cl_of (k := 0) D sc_is_whole (fun vs H Q E h => ?_) (fun f cdv A outer s H vs Q E hr h => ?_)
  · obtain ⟨i, rfl, _⟩ := h
    rfl
  · obtain ⟨i, rfl, q⟩ := h
    refine ⟨_, (pss_one (ps_ret (pe_and (pe_callB call_isi (by rfl) T.z_isinstance (by decide +kernel) (pa_cons (pv 0) (pa_cons (pe_ty "int" (by rfl) T.z_int (by decide +kernel)) pa_nil))) (pe_one (pe_not (pe_callB call_isi (by rfl) T.z_isinstance (by decide +kernel) (pa_cons (pv 0) (pa_cons (pe_ty "bool" (by rfl) T.z_bool (by decide +kernel)) pa_nil)))))))), ?_⟩
    exact s_ret (ev_andV (ev_isi (ev_var rfl) ev_c (.ty _) (fun _ _ => tyx_int i) kit_ii) (fun _ => ev_notV (ev_isi (ev_var rfl) ev_c (.ty _) (fun _ _ => tyx_int i) kit_ib))) fun H1 e => q _ H1 e rfl
def sp_is_below : Sp := spX (fun (p : Int × Int) vs _ => vs = [.int p.1, .int p.2] ∧ 0 ≤ p.1 ∧ p.1 < p.2) (fun _ v _ => v = .bl true)
theorem c_is_below (T : Txt mg) (D : Df K mg "is_below" s_is_below ["thing", "size"]) (c_is_whole : Cl P w K mg base 1 "is_whole" sp_is_whole) : Cl P w K mg base 2 "is_below" sp_is_below := by
  refine cl_of (k := 1) D sc_is_below (fun vs H Q E h => ?_) (fun f cdv A outer s H vs Q E hr h => ?_)
  · obtain ⟨p, ⟨rfl, _⟩, _⟩ := h
    rfl
  · obtain ⟨⟨i, n⟩, ⟨rfl, h0, h1⟩, q⟩ := h
    refine ⟨_, (pss_one (ps_ret (pe_and (pe_cl c_is_whole hr (by first | decide | omega) (by rfl) (pa_cons (pv 0) pa_nil)) (pe_one (pe_chain op_le op_lt pe_int (pv 0) (pv 1)))))), ?_⟩
    refine s_ret (ev_andV (ev_callV (v := .bl true) i (ea_cons (ev_var rfl) ea_nil) (fun _ _ => rfl) (fun _ _ p => p)) (fun _ => ev_chain ev_c (ev_var rfl) (fun _ => ev_var rfl) rv_I0 (fun _ => rv_I0))) fun H1 e => q _ H1 e ?_
    show V.bl (true && (decide (0 ≤ i) && decide (i < n))) = _
    rw [decide_eq_true h0, decide_eq_true h1]
    rfl
def sp_power : Sp := spX (fun (p : Nat × Nat) vs _ => vs = [vi p.1, vi p.2] ∧ p.1 ≤ 6 ∧ p.2 ≤ 2) (fun p v _ => v = vi (p.1 ^ p.2))
theorem c_power (T : Txt mg) (D : Df K mg "power" s_power ["base", "many"]) : Cl P w K mg base 1 "power" sp_power := by
  refine cl_of (k := 0) D sc_power (fun vs H Q E h => ?_) (fun f cdv A outer s H vs Q E hr h => ?_)
  · obtain ⟨p, ⟨rfl, _⟩, _⟩ := h
    rfl
  · obtain ⟨⟨b, m⟩, ⟨rfl, hb, hm⟩, q⟩ := h
    refine ⟨_, (pss_cons (ps_set (i := 2) sc_power.nd rfl (.inl rfl) pe_int)
      (pss_cons (ps_for PassesOwn.never (by rfl) (pi_range1 (by rfl) T.z_range (pa_cons (pv 1) pa_nil)) (pg_name (i := 3) sc_power.nd rfl (.inl rfl))
        (pss_one (ps_aug (i := 2) sc_power.nd rfl (.inl rfl) (pv 0) ip_mul)))
      (pss_one (ps_ret (pv 2))))), ?_⟩
    refine q_asg ev_c fun H1 e1 => ?_
    refine q_forR1 (ea_cons (ev_var rfl) ea_nil) (by omega) (fun i σ H' => ∃ y, σ = [some (vi b), some (vi m), some (vi (b ^ i)), y] ∧ Ex H H') (fun H2 e2 => ⟨none, rfl, e1.trans e2⟩) (fun i σ H' hi ⟨y, hσ, e⟩ => ?_) (fun σ H' ⟨y, hσ, e⟩ => ?_)
    · subst hσ
      refine ⟨_, rfl, _, rfl, ((b ^ i : Nat) : Int), (b : Int), rfl, rfl, .inr ⟨by omega, by omega⟩, some (vi i), ?_, e⟩
      show [some (vi b), some (vi m), some (.int (((b ^ i : Nat) : Int) * (b : Int))), some (vi i)] = [some (vi b), some (vi m), some (vi (b ^ (i + 1))), some (vi i)]
      rw [Nat.pow_succ]
      show _ = [some (vi b), some (vi m), some (.int ((b ^ i * b : Nat) : Int)), some (vi i)]
      rw [Int.natCast_mul]
    · subst hσ
      exact s_ret (ev_var rfl) fun H2 e2 => q _ H2 (e.trans e2) rfl
end
end K22
end
section
namespace K22
open PySem PySem.Spec PyProof.Rows L2 Evl Dw M20
section
variable {P : Program} {w : World} {K : PySem.W.Frag} {mg : Str → Option Value} {base : Heap}
theorem ix_tupK {X : Cx} (K : PySem.W.Frag) (h : X.K = K := by rfl) : IxR X (rIxT K) := by
  subst h
  exact ix_tup
theorem pi_tupK {X : Cx} {tg l : Expr} {tl : TE} (K : PySem.W.Frag) (hl : PE X l tl) (h : X.K = K := by rfl) : PI X tg l (iTup K tl) := by
  subst h
  exact pi_tup hl
/-! ### names, deeds, signatures -/
def letters : Str := "abcdefghijklmnopqrst"
structure Name (z : Str) : Prop where
  l1 : 1 ≤ z.length
  l4 : z.length ≤ 4
  abc : ∀ c ∈ z.cps.toList, c ∈ letters.cps.toList
def sp_is_name : Sp := spX (fun (z : Str) vs _ => vs = [.str z] ∧ Name z) (fun _ v _ => v = .bl true)
theorem c_is_name (T : Txt mg) (D : Df K mg "is_name" s_is_name ["thing"]) : Cl P w K mg base 1 "is_name" sp_is_name := by
  refine cl_of (k := 0) D sc_is_name (fun vs H Q E h => ?_) (fun f cdv A outer s H vs Q E hr h => ?_)
  · obtain ⟨p, ⟨rfl, _⟩, _⟩ := h
    rfl
  · obtain ⟨z, ⟨rfl, hz⟩, q⟩ := h
    refine ⟨_, (pss_cons (ps_if (PW.pt (pw_or (pt_not (pt_val (pe_callB call_isi (by rfl) T.z_isinstance (by decide +kernel) (pa_cons (pv 0) (pa_cons (pe_ty "str" (by rfl) T.z_str (by decide +kernel)) pa_nil))))) (pw_or1 (pt_not (pt_chain op_le op_le pe_int (pe_callB call_len_str (by rfl) T.z_len PySem.boot_len (pa_cons (pv 0) pa_nil)) (pe_gi (by rfl) T.c_MOST_NAME))))))
        (pss_one (ps_ret pe_bl))
        pss_nil)
      (pss_one (ps_ret (pe_callB (cr_all rfl) (by rfl) T.z_all (by decide +kernel) (pa_cons (pe_lc (own := [("sign", 1)]) (g := (gName 1)) (by rfl) sc_is_name.nd (pi_str (pv 0)) (blkOk_by (own := [("sign", 1)]) (N := ["thing", "sign"]) (sc := (defScope s_is_name)) (by decide +kernel)) (fun _ _ _ _ _ => (pg_name (i := 1) sc_is_name.nd rfl (.inl rfl))) (fun _ _ _ _ _ => pts_nil) (fun _ _ _ _ _ => (pe_cmpR op_in_sign (pv 1) (pe_gs (by rfl) T.c_NAME_LETTERS) (by rfl)))) pa_nil))))), ?_⟩
    have h1 := hz.l1
    have h4 := hz.l4
    have hs : z.cps.size = z.length := rfl
    refine q_when (b := false) (et_is (et_or (et_not (et_val (ev_isi (ev_var rfl) ev_c (.ty _) (fun _ _ => tyx_str z) kit_ss))) (fun _ => et_not (et_test (ev_chain ev_c (ev_lenS (ev_var rfl) (by omega)) (fun _ => ev_c) rv_I0 (fun _ => rv_I0))))) ?_) (fun hb => by cases hb) (fun _ H1 e1 => ?_)
    · show (!true || !(decide ((1 : Int) ≤ (z.length : Int)) && decide ((z.length : Int) ≤ 4))) = false
      rw [decide_eq_true (by omega), decide_eq_true (by omega)]
      rfl
    · refine s_ret (ev_all (bs := List.replicate z.cps.size true) ?_) fun H2 e2 => q _ H2 (e1.trans e2) ?_
      · have e : (List.replicate z.cps.size true).map V.bl = (List.range z.cps.size).map (fun _ => V.bl true) := by
          rw [List.map_const', List.length_range, List.map_replicate]
        rw [e]
        refine el_lcS (ev_var rfl) (fun _ => .bl true) (by omega) (fun _ => rfl) (fun i c H2 e2 hc => ?_)
        refine ev_op (ev_var rfl) ev_c ?_
        have hm : c ∈ letters.cps.toList := hz.abc c (by
          obtain ⟨hi, e⟩ := Array.getElem?_eq_some_iff.mp hc
          rw [← e]
          exact Array.getElem_mem_toList hi)
        exact fun H3 _ Q q3 => ⟨c, letters, rfl, rfl, by rw [decide_eq_true hm]; exact q3 H3 (Ex.refl H3)⟩
      · show V.bl ((List.replicate z.cps.size true).all id) = V.bl true
        rw [show (List.replicate z.cps.size true).all id = true from List.all_eq_true.mpr (fun b hb => (List.mem_replicate.mp hb).2)]
def sp_is_deed (K : PySem.W.Frag) : Sp := spX (fun (p : Str × Nat) vs H => (∃ v, vs = [v] ∧ Deed K H v p) ∧ Name p.1 ∧ p.2 ≤ 2) (fun _ v _ => v = .bl true)
theorem c_is_deed (T : Txt mg) (D : Df K mg "is_deed" s_is_deed ["thing"]) (c_is_name : Cl P w K mg base 1 "is_name" sp_is_name) (c_is_below : Cl P w K mg base 2 "is_below" sp_is_below) : Cl P w K mg base 3 "is_deed" (sp_is_deed K) := by
  refine cl_of (k := 2) D sc_is_deed (fun vs H Q E h => ?_) (fun f cdv A outer s H vs Q E hr h => ?_)
  · obtain ⟨p, ⟨⟨v, rfl, _⟩, _⟩, _⟩ := h
    rfl
  · obtain ⟨⟨z, p⟩, ⟨⟨v, rfl, b, rfl, hb⟩, hz, hp⟩, q⟩ := h
    refine ⟨_, (pss_one (ps_ret (pe_and (pe_callB call_isi (by rfl) T.z_isinstance (by decide +kernel) (pa_cons (pv 0) (pa_cons (pe_ty "tuple" (by rfl) T.z_tuple (by decide +kernel)) pa_nil))) (pe_and (pe_cmpR op_eq (pe_callB call_len_seq (by rfl) T.z_len PySem.boot_len (pa_cons (pv 0) pa_nil)) pe_int (nomark _)) (pe_and (pe_cl c_is_name hr (by first | decide | omega) (by rfl) (pa_cons (pe_ix ix_tup (pv 0) pe_int (fun _ _ => rfl)) pa_nil)) (pe_one (pe_cl c_is_below hr (by first | decide | omega) (by rfl) (pa_cons (pe_ix ix_tup (pv 0) pe_int (fun _ _ => rfl)) (pa_cons (pe_op op_add (pe_gi (by rfl) T.c_MOST_PLACES) pe_int) pa_nil))))))))), ?_⟩
    refine s_ret (ev_andV (ev_isi (ev_var rfl) ev_c (.ty _) (fun _ e => tyx_tup (ex_t e hb)) kit_tt) (fun _ => ev_andV (ev_op (ev_lenT (ev_var rfl) hb) ev_c (rv_eq rfl)) (fun _ =>
      ev_andV (ev_callV (v := .bl true) z (ea_cons (ev_op (ev_var rfl) ev_c (rv_ixT hb (atI_vi (k := 0) rfl))) ea_nil) (fun _ _ => ⟨rfl, hz⟩) (fun _ _ p => p)) (fun _ =>
        ev_callV (v := .bl true) (((p : Nat) : Int), (3 : Int)) (ea_cons (ev_op (ev_var rfl) ev_c (rv_ixT hb (atI_vi (k := 1) rfl))) (ea_cons (ev_op ev_c ev_c rv_I0) ea_nil)) (fun _ _ => ⟨rfl, by show (0 : Int) ≤ (p : Int); omega, by show (p : Int) < 3; have : p ≤ 2 := hp; omega⟩) (fun _ _ p => p))))) fun H1 e => q _ H1 e rfl
/-- a signature as the law draws it -/
structure SigOk (sg : List (Str × Nat)) : Prop where
  l1 : 1 ≤ sg.length
  l4 : sg.length ≤ 4
  nm : ∀ p ∈ sg, Name p.1
  pl : ∀ p ∈ sg, p.2 ≤ 2
  nd : (sg.map (·.1)).Nodup
def sp_signature_wrong (K : PySem.W.Frag) : Sp := spX (fun (sg : List (Str × Nat)) vs H => (∃ v, vs = [v] ∧ Sig K H v sg) ∧ SigOk sg) (fun _ v _ => v = .non)
theorem c_signature_wrong (T : Txt mg) (D : Df K mg "signature_wrong" s_signature_wrong ["thing"]) (c_is_deed : Cl P w K mg base 3 "is_deed" (sp_is_deed K)) : Cl P w K mg base 4 "signature_wrong" (sp_signature_wrong K) := by
  refine cl_of (k := 3) D sc_signature_wrong (fun vs H Q E h => ?_) (fun f cdv A outer s H vs Q E hr h => ?_)
  · obtain ⟨p, ⟨⟨v, rfl, _⟩, _⟩, _⟩ := h
    rfl
  · obtain ⟨sg, ⟨⟨v, rfl, a, us, rfl, hS, hP⟩, ok⟩, q⟩ := h
    refine ⟨_, (pss_cons (ps_if (PW.pt (pw_or (pt_not (pt_val (pe_callB call_isi (by rfl) T.z_isinstance (by decide +kernel) (pa_cons (pv 0) (pa_cons (pe_ty "tuple" (by rfl) T.z_tuple (by decide +kernel)) pa_nil))))) (pw_or1 (pt_not (pt_chain op_le op_le pe_int (pe_callB call_len_seq (by rfl) T.z_len PySem.boot_len (pa_cons (pv 0) pa_nil)) (pe_gi (by rfl) T.c_MOST_DEEDS))))))
        (pss_one (ps_ret (pe_tup (pa_cons pe_str pa_nil))))
        pss_nil)
      (pss_cons (ps_for PassesOwn.never (by rfl) (pi_enumT (by rfl) T.z_enumerate (pa_cons (pv 0) pa_nil)) (pg_tup (by rfl) (pgs_cons (pg_name (i := 1) sc_signature_wrong.nd rfl (.inl rfl)) (pgs_cons (pg_name (i := 2) sc_signature_wrong.nd rfl (.inl rfl)) pgs_nil)))
        (pss_one (ps_if (pt_not (pt_val (pe_cl c_is_deed hr (by first | decide | omega) (by rfl) (pa_cons (pv 2) pa_nil))))
          (pss_one (ps_ret (pe_tup (pa_cons pe_str (pa_cons (pv 1) pa_nil)))))
          pss_nil)))
      (pss_cons (ps_setLc (i := 3) (own := [("deed", 2)]) (g := (gName 2)) (by rfl) sc_signature_wrong.nd rfl rfl (sw_true rfl rfl rfl (by decide +kernel)) (pi_tup (pv 0)) (blkOk_by (own := [("deed", 2)]) (N := ["thing", "k", "deed", "names", "name"]) (sc := (defScope s_signature_wrong)) (by decide +kernel)) (fun _ _ _ _ _ => (pg_name (i := 2) sc_signature_wrong.nd rfl (.inl rfl))) (fun _ _ _ _ _ => pts_nil) (fun _ _ _ _ _ => (pe_ix (ix_tupK K) (pv 2) pe_int (fun _ _ => rfl))))
      (pss_cons (ps_for PassesOwn.never (by rfl) (pi_enum (by rfl) T.z_enumerate (pa_cons (pv 3) pa_nil)) (pg_tup (by rfl) (pgs_cons (pg_name (i := 1) sc_signature_wrong.nd rfl (.inl rfl)) (pgs_cons (pg_name (i := 4) sc_signature_wrong.nd rfl (.inl rfl)) pgs_nil)))
        (pss_one (ps_if (pt_cmpR op_in_seq (pv 4) (pe_slice sl_list (pv 3) po_none (po_some (pv 1))) (by rfl))
          (pss_one (ps_ret (pe_tup (pa_cons pe_str (pa_cons (pv 1) pa_nil)))))
          pss_nil)))
      (pss_one (ps_ret pe_non)))))), ?_⟩
    have h1 := ok.l1
    have h4 := ok.l4
    have hl : us.length = sg.length := paired_len hP
    refine q_when (b := false) (et_is (et_or (et_not (et_val (ev_isi (ev_var rfl) ev_c (.ty _) (fun _ e => tyx_tup (ex_t e hS)) kit_tt))) (fun _ => et_not (et_test (ev_chain ev_c (ev_lenT (ev_var rfl) hS) (fun _ => ev_c) rv_I0 (fun _ => rv_I0))))) ?_) (fun hb => by cases hb) (fun _ H1 e1 => ?_)
    · show (!true || !(decide ((1 : Int) ≤ (us.length : Int)) && decide ((us.length : Int) ≤ 4))) = false
      rw [decide_eq_true (by omega), decide_eq_true (by omega)]
      rfl
    -- each is a deed
    refine q_enumT (ea_cons (ev_var rfl) ea_nil) (ex_t e1 hS) (fun i σ H' => Ex H H' ∧ ∃ y1 y2, σ = [some (.ref a), y1, y2, none, none]) (fun H2 e2 => ⟨e1.trans e2, none, none, rfl⟩) (fun i σ H' _ ⟨e, _⟩ => ex_t e hS) (fun i x σ H2 H3 hx ⟨e, y1, y2, hσ⟩ e3 => ?_) (fun σ H2 ⟨e2, y1, y2, hσ⟩ => ?_)
    · subst hσ
      have hi : i < sg.length := by rw [← hl]; exact (List.getElem?_eq_some_iff.mp hx).1
      obtain ⟨x', ex', dx⟩ := paired_get hP (List.getElem?_eq_getElem hi)
      have : x' = x := Option.some.inj (ex'.symm.trans hx)
      subst this
      have hm : sg[i] ∈ sg := List.getElem_mem hi
      have e03 : Ex H H3 := e.trans e3
      refine s_when (b := false) (et_is (et_not (et_val (ev_callV (v := .bl true) sg[i] (ea_cons (ev_var rfl) ea_nil) (fun H4 e4 => ⟨⟨_, rfl, dx.et (Dw.Ex.et (e03.trans e4))⟩, ok.nm _ hm, ok.pl _ hm⟩) (fun _ _ p => p)))) rfl) (fun hb => by cases hb) (fun _ H4 e4 => ⟨e03.trans e4, _, _, rfl⟩)
    · subst hσ
      -- the names
      have names : EvL (tLc (iTup K (tVar 0)) (gName 2) tYes (tOp (rIxT K) (tVar 2) (tC (.int 0))) [2]) [some (.ref a), y1, y2, none, none] H2 ((List.range us.length).map fun i => .str (sg.getD i ("", 0)).1) := by
        refine el_lcT (ev_var rfl) (ex_t e2 hS) _ (by omega) (fun _ => rfl) (fun i x H3 e3 hx => ?_)
        have hi : i < sg.length := by rw [← hl]; exact (List.getElem?_eq_some_iff.mp hx).1
        obtain ⟨x', ex', b, hb, hd⟩ := paired_get hP (List.getElem?_eq_getElem hi)
        have : x' = x := Option.some.inj (ex'.symm.trans hx)
        subst this
        subst hb
        rw [List.getD_eq_getElem?_getD, List.getElem?_eq_getElem hi]
        exact ev_op (ev_var rfl) ev_c (rv_ixT (ex_t (e2.trans e3) hd) (atI_vi (k := 0) rfl))
      rw [hl] at names
      have eN : ((List.range sg.length).map fun i => V.str (sg.getD i ("", 0)).1) = (sg.map (·.1)).map V.str := by
        apply List.ext_getElem?
        intro i
        by_cases hi : i < sg.length
        · rw [List.getElem?_map, List.getElem?_range hi, List.getElem?_map, List.getElem?_map, List.getElem?_eq_getElem hi]
          show some (V.str (sg.getD i ("", 0)).1) = some (V.str sg[i].1)
          rw [List.getD_eq_getElem?_getD, List.getElem?_eq_getElem hi]
          rfl
        · rw [List.getElem?_eq_none_iff.mpr (by simp; omega), List.getElem?_eq_none_iff.mpr (by simp; omega)]
      rw [eN] at names
      refine q_asgL names fun p H3 np e3 hp => ?_
      have e03 : Ex H H3 := e2.trans e3
      refine q_enumL (K := K) (ea_cons (ev_var rfl) ea_nil) (sq_of hp) (fun i σ H' => Ex H3 H' ∧ ∃ z1 z4, σ = [some (.ref a), z1, y2, some (.ref p), z4]) (fun H4 e4 => ⟨e4, _, _, rfl⟩) (fun i σ H' _ ⟨e, _⟩ => ex_l e (sq_of hp)) (fun i x σ H4 H5 hx ⟨e4, z1, z4, hσ⟩ e5 => ?_) (fun σ H4 ⟨e4, z1, z4, hσ⟩ => ?_)
      · subst hσ
        have hi : i < (sg.map (·.1)).length := by simpa using (List.getElem?_eq_some_iff.mp hx).1
        have ex : x = .str (sg.map (·.1))[i] := by
          rw [List.getElem?_map, List.getElem?_eq_getElem hi] at hx
          exact (Option.some.inj hx).symm
        subst ex
        have cut : cutV ((sg.map (·.1)).map V.str) none (some (i : Int)) = ((sg.map (·.1)).take i).map V.str := by
          unfold cutV
          rw [HT.sIx_none, HT.sIx_nat, List.length_map, Nat.sub_zero, List.drop_zero, ← List.map_take, Nat.min_eq_left (Nat.le_of_lt hi)]
        have flat : (((sg.map (·.1)).take i).map V.str).all flatV = true := List.all_eq_true.mpr (fun v hv => by
          obtain ⟨z, _, rfl⟩ := List.mem_map.mp hv
          rfl)
        have out : inV (.str (sg.map (·.1))[i]) (((sg.map (·.1)).take i).map V.str) = false := by
          unfold inV
          rw [List.any_eq_false]
          intro v hv
          obtain ⟨z, hz, rfl⟩ := List.mem_map.mp hv
          show ¬ (z == (sg.map (·.1))[i]) = true
          intro he
          have he' : z = (sg.map (·.1))[i] := eq_of_beq he
          obtain ⟨j, hj, ej⟩ := List.mem_take_iff_getElem.mp hz
          have hji : j < i := by omega
          have := (List.getElem_inj ok.nd).mp (ej.trans he')
          omega
        have eL : Ex H3 H5 := e4.trans e5
        have sl : EvL (tSl (rSlL K) (tVar 3) tNoPart (tPart (tVar 1))) [some (.ref a), some (vi i), y2, some (.ref p), some (.str (sg.map (·.1))[i])] H5 (((sg.map (·.1)).take i).map V.str) := by
          rw [← cut]
          exact el_sl (ev_var rfl) eo_none (eo_some (ev_var rfl)) (ex_l eL (sq_of hp))
        exact s_when (b := false) (et_is (et_test (ev_opL (ev_var rfl) sl (fun r H6 hr6 _ => rv_isL (sq_of hr6) rfl flat))) out) (fun hb => by cases hb) (fun _ H6 e6 => ⟨eL.trans e6, _, _, rfl⟩)
      · subst hσ
        exact s_ret ev_c fun H5 e5 => q _ H5 ((e03.trans e4).trans e5) rfl
def sp_need_signature (K : PySem.W.Frag) : Sp := spX (fun (sg : List (Str × Nat)) vs H => (∃ v, vs = [v] ∧ Sig K H v sg) ∧ SigOk sg) (fun _ v _ => v = .non)
theorem c_need_signature (T : Txt mg) (D : Df K mg "need_signature" s_need_signature ["signature"]) (c_signature_wrong : Cl P w K mg base 4 "signature_wrong" (sp_signature_wrong K)) : Cl P w K mg base 5 "need_signature" (sp_need_signature K) := by
  refine cl_of (k := 4) D sc_need_signature (fun vs H Q E h => ?_) (fun f cdv A outer s H vs Q E hr h => ?_)
  · obtain ⟨p, ⟨⟨v, rfl, _⟩, _⟩, _⟩ := h
    rfl
  · obtain ⟨sg, ⟨⟨v, rfl, hS⟩, ok⟩, q⟩ := h
    refine ⟨_, (pss_one (ps_if (pt_cmpR op_notN (pe_cl c_signature_wrong hr (by first | decide | omega) (by rfl) (pa_cons (pv 0) pa_nil)) pe_non (nomark _))
        (pss_one ps_never)
        pss_nil)), ?_⟩
    exact s_when (b := false) (et_is (et_isN (ev_callV (v := .non) sg (ea_cons (ev_var rfl) ea_nil) (fun H1 e1 => ⟨⟨_, rfl, hS.ex e1⟩, ok⟩) (fun _ _ p => p))) rfl) (fun hb => by cases hb) (fun _ H1 e1 => q _ H1 e1 rfl)
/-! ### models looked at -/
def sp_is_size : Sp := spX (fun (n : Nat) vs _ => vs = [vi n] ∧ 1 ≤ n ∧ n ≤ 6) (fun _ v _ => v = .bl true)
theorem c_is_size (T : Txt mg) (D : Df K mg "is_size" s_is_size ["thing"]) (c_is_whole : Cl P w K mg base 1 "is_whole" sp_is_whole) : Cl P w K mg base 2 "is_size" sp_is_size := by
  refine cl_of (k := 1) D sc_is_size (fun vs H Q E h => ?_) (fun f cdv A outer s H vs Q E hr h => ?_)
  · obtain ⟨p, ⟨rfl, _⟩, _⟩ := h
    rfl
  · obtain ⟨n, ⟨rfl, h1, h6⟩, q⟩ := h
    refine ⟨_, (pss_one (ps_ret (pe_and (pe_cl c_is_whole hr (by first | decide | omega) (by rfl) (pa_cons (pv 0) pa_nil)) (pe_one (pe_chain op_le op_le pe_int (pv 0) (pe_gi (by rfl) T.c_MOST_SIZE)))))), ?_⟩
    refine s_ret (ev_andV (ev_callV (v := .bl true) (n : Int) (ea_cons (ev_var rfl) ea_nil) (fun _ _ => rfl) (fun _ _ p => p)) (fun _ => ev_chain ev_c (ev_var rfl) (fun _ => ev_c) rv_I0 (fun _ => rv_I0))) fun H1 e => q _ H1 e ?_
    show V.bl (true && (decide ((1 : Int) ≤ (n : Int)) && decide ((n : Int) ≤ 6))) = _
    rw [decide_eq_true (by omega), decide_eq_true (by omega)]
    rfl
def sp_first_odd_cell (K : PySem.W.Frag) : Sp := spX (fun (p : Nat × List (List Nat)) vs H => (∃ v, vs = [vi p.1, v] ∧ Tabs K H v p.2) ∧ ∀ t ∈ p.2, ∀ k ∈ t, k < p.1) (fun _ v _ => v = .non)
theorem c_first_odd_cell (T : Txt mg) (D : Df K mg "first_odd_cell" s_first_odd_cell ["size", "tables"]) (c_is_below : Cl P w K mg base 2 "is_below" sp_is_below) : Cl P w K mg base 3 "first_odd_cell" (sp_first_odd_cell K) := by
  refine cl_of (k := 2) D sc_first_odd_cell (fun vs H Q E h => ?_) (fun f cdv A outer s H vs Q E hr h => ?_)
  · obtain ⟨p, ⟨⟨v, rfl, _⟩, _⟩, _⟩ := h
    rfl
  · obtain ⟨⟨n, ts⟩, ⟨⟨v, rfl, a, us, rfl, hS, hP⟩, low⟩, q⟩ := h
    refine ⟨_, (pss_cons (ps_for PassesOwn.never (by rfl) (pi_enumT (by rfl) T.z_enumerate (pa_cons (pv 1) pa_nil)) (pg_tup (by rfl) (pgs_cons (pg_name (i := 2) sc_first_odd_cell.nd rfl (.inl rfl)) (pgs_cons (pg_name (i := 3) sc_first_odd_cell.nd rfl (.inl rfl)) pgs_nil)))
        (pss_one (ps_for PassesOwn.never (by rfl) (pi_enumT (by rfl) T.z_enumerate (pa_cons (pv 3) pa_nil)) (pg_tup (by rfl) (pgs_cons (pg_name (i := 4) sc_first_odd_cell.nd rfl (.inl rfl)) (pgs_cons (pg_name (i := 5) sc_first_odd_cell.nd rfl (.inl rfl)) pgs_nil)))
          (pss_one (ps_if (pt_not (pt_val (pe_cl c_is_below hr (by first | decide | omega) (by rfl) (pa_cons (pv 5) (pa_cons (pv 0) pa_nil)))))
            (pss_one (ps_ret (pe_tup (pa_cons (pv 2) (pa_cons (pv 4) pa_nil)))))
            pss_nil)))))
      (pss_one (ps_ret pe_non))), ?_⟩
    refine q_enumT (ea_cons (ev_var rfl) ea_nil) hS (fun i σ H' => Ex H H' ∧ ∃ y2 y3 y4 y5, σ = [some (vi n), some (.ref a), y2, y3, y4, y5]) (fun H2 e2 => ⟨e2, none, none, none, none, rfl⟩) (fun i σ H' _ ⟨e, _⟩ => ex_t e hS) (fun i x σ H2 H3 hx ⟨e, y2, y3, y4, y5, hσ⟩ e3 => ?_) (fun σ H2 ⟨e2, _, _, _, _, hσ⟩ => ?_)
    · subst hσ
      have hi : i < ts.length := by rw [← paired_len hP]; exact (List.getElem?_eq_some_iff.mp hx).1
      obtain ⟨x', ex', b, hb, hd⟩ := paired_get hP (List.getElem?_eq_getElem hi)
      have : x' = x := Option.some.inj (ex'.symm.trans hx)
      subst this
      subst hb
      have e03 : Ex H H3 := e.trans e3
      refine s_enumT (ea_cons (ev_var rfl) ea_nil) (ex_t e03 hd) (fun j σ H' => Ex H H' ∧ ∃ y4 y5, σ = [some (vi n), some (.ref a), some (vi i), some (.ref b), y4, y5]) (fun H4 e4 => ⟨e03.trans e4, _, _, rfl⟩) (fun j σ H' _ ⟨e, _⟩ => ex_t e hd) (fun j y σ H4 H5 hy ⟨e4, z4, z5, hσ⟩ e5 => ?_) (fun σ H4 ⟨e4, z4, z5, hσ⟩ => ?_)
      · subst hσ
        have hj : j < ts[i].length := by simpa using (List.getElem?_eq_some_iff.mp hy).1
        have ey : y = vi ts[i][j] := by
          rw [List.getElem?_map, List.getElem?_eq_getElem hj] at hy
          exact (Option.some.inj hy).symm
        subst ey
        have lo : ts[i][j] < n := low _ (List.getElem_mem hi) _ (List.getElem_mem hj)
        exact s_when (b := false) (et_is (et_not (et_val (ev_callV (v := .bl true) (((ts[i][j] : Nat) : Int), (n : Int)) (ea_cons (ev_var rfl) (ea_cons (ev_var rfl) ea_nil)) (fun H4 e4 => ⟨rfl, by show (0 : Int) ≤ ((ts[i][j] : Nat) : Int); omega, by show ((ts[i][j] : Nat) : Int) < (n : Int); omega⟩) (fun _ _ p => p)))) rfl) (fun hb => by cases hb) (fun _ H6 e6 => ⟨(e4.trans e5).trans e6, _, _, rfl⟩)
      · subst hσ
        exact ⟨e4, _, _, _, _, rfl⟩
    · subst hσ
      exact s_ret ev_c fun H3 e3 => q _ H3 (e2.trans e3) rfl
/-- a model of a signature, as tables of natural numbers -/
structure MdlOk (sg : List (Str × Nat)) (n : Nat) (ts : List (List Nat)) : Prop where
  n1 : 1 ≤ n
  n6 : n ≤ 6
  len : ts.length = sg.length
  tab : ∀ i (h1 : i < sg.length) (h2 : i < ts.length), Tab n sg[i].2 ts[i]
theorem MdlOk.low {sg : List (Str × Nat)} {n : Nat} {ts : List (List Nat)} (m : MdlOk sg n ts) : ∀ t ∈ ts, ∀ k ∈ t, k < n := by
  intro t ht k hk
  obtain ⟨i, hi, e⟩ := List.mem_iff_getElem.mp ht
  subst e
  have tb := m.tab i (by rw [← m.len]; exact hi) hi
  obtain ⟨j, hj, e⟩ := List.mem_iff_getElem.mp hk
  have h := tb.low j (by rw [← tb.len]; exact hj)
  have g1 := g_eq hj
  rw [List.getElem?_eq_getElem hj, e] at g1
  rw [← Option.some.inj g1] at h
  exact h
def sp_model_wrong (K : PySem.W.Frag) : Sp := spX (fun (p : List (Str × Nat) × Nat × List (List Nat)) vs H => (∃ u v, vs = [u, v] ∧ Sig K H u p.1 ∧ Mdl K H v p.2.1 p.2.2) ∧ SigOk p.1 ∧ MdlOk p.1 p.2.1 p.2.2) (fun _ v _ => v = .non)
theorem c_model_wrong (T : Txt mg) (D : Df K mg "model_wrong" s_model_wrong ["signature", "thing"]) (c_need_signature : Cl P w K mg base 5 "need_signature" (sp_need_signature K)) (c_is_size : Cl P w K mg base 2 "is_size" sp_is_size)
    (c_power : Cl P w K mg base 1 "power" sp_power) (c_first_odd_cell : Cl P w K mg base 3 "first_odd_cell" (sp_first_odd_cell K)) : Cl P w K mg base 6 "model_wrong" (sp_model_wrong K) := by
  refine cl_of (k := 5) D sc_model_wrong (fun vs H Q E h => ?_) (fun f cdv A outer s H vs Q E hr h => ?_)
  · obtain ⟨p, ⟨⟨u, v, rfl, _⟩, _⟩, _⟩ := h
    rfl
  · obtain ⟨⟨sg, n, ts⟩, ⟨⟨u, v, rfl, hG, hM⟩, sok, mok⟩, q⟩ := h
    refine ⟨_, (pss_cons (ps_expr (pe_cl c_need_signature hr (by first | decide | omega) (by rfl) (pa_cons (pv 0) pa_nil)))
      (pss_cons (ps_if (PW.pt (pw_or (pt_not (pt_val (pe_callB call_isi (by rfl) T.z_isinstance (by decide +kernel) (pa_cons (pv 1) (pa_cons (pe_ty "tuple" (by rfl) T.z_tuple (by decide +kernel)) pa_nil))))) (pw_or1 (pt_cmpR op_ne (pe_callB call_len_seq (by rfl) T.z_len PySem.boot_len (pa_cons (pv 1) pa_nil)) pe_int (nomark _)))))
        (pss_one (ps_ret (pe_tup (pa_cons pe_str pa_nil))))
        pss_nil)
      (pss_cons (ps_asg (pv 1) (pg_tup (by rfl) (pgs_cons (pg_name (i := 2) sc_model_wrong.nd rfl (.inl rfl)) (pgs_cons (pg_name (i := 3) sc_model_wrong.nd rfl (.inl rfl)) pgs_nil))))
      (pss_cons (ps_if (pt_not (pt_val (pe_cl c_is_size hr (by first | decide | omega) (by rfl) (pa_cons (pv 2) pa_nil))))
        (pss_one (ps_ret (pe_tup (pa_cons pe_str pa_nil))))
        pss_nil)
      (pss_cons (ps_if (PW.pt (pw_or (pt_not (pt_val (pe_callB call_isi (by rfl) T.z_isinstance (by decide +kernel) (pa_cons (pv 3) (pa_cons (pe_ty "tuple" (by rfl) T.z_tuple (by decide +kernel)) pa_nil))))) (pw_or1 (pt_cmpR op_ne (pe_callB call_len_seq (by rfl) T.z_len PySem.boot_len (pa_cons (pv 3) pa_nil)) (pe_callB call_len_seq (by rfl) T.z_len PySem.boot_len (pa_cons (pv 0) pa_nil)) (nomark _)))))
        (pss_one (ps_ret (pe_tup (pa_cons pe_str pa_nil))))
        pss_nil)
      (pss_cons (ps_for PassesOwn.never (by rfl) (pi_enumT (by rfl) T.z_enumerate (pa_cons (pv 0) pa_nil)) (pg_tup (by rfl) (pgs_cons (pg_name (i := 4) sc_model_wrong.nd rfl (.inl rfl)) (pgs_cons (pg_name (i := 5) sc_model_wrong.nd rfl (.inl rfl)) pgs_nil)))
        (pss_one (ps_if (PW.pt (pw_or (pt_not (pt_val (pe_callB call_isi (by rfl) T.z_isinstance (by decide +kernel) (pa_cons (pe_ix ix_tup (pv 3) (pv 4) (fun _ _ => rfl)) (pa_cons (pe_ty "tuple" (by rfl) T.z_tuple (by decide +kernel)) pa_nil))))) (pw_or1 (pt_cmpR op_ne (pe_callB call_len_seq (by rfl) T.z_len PySem.boot_len (pa_cons (pe_ix ix_tup (pv 3) (pv 4) (fun _ _ => rfl)) pa_nil)) (pe_cl c_power hr (by first | decide | omega) (by rfl) (pa_cons (pv 2) (pa_cons (pe_ix ix_tup (pv 5) pe_int (fun _ _ => rfl)) pa_nil))) (nomark _)))))
          (pss_one (ps_ret (pe_tup (pa_cons pe_str (pa_cons (pv 4) pa_nil)))))
          pss_nil)))
      (pss_cons (ps_set (i := 6) sc_model_wrong.nd rfl (.inl rfl) (pe_cl c_first_odd_cell hr (by first | decide | omega) (by rfl) (pa_cons (pv 2) (pa_cons (pv 3) pa_nil))))
      (pss_one (ps_ret (pe_ifExp (pt_cmpR op_isN (pv 6) pe_non (nomark _)) pe_non (pe_tup (pa_cons pe_str (pa_cons (pe_ix ix_tup (pv 6) pe_int (fun _ _ => rfl)) (pa_cons (pe_ix ix_tup (pv 6) pe_int (fun _ _ => rfl)) pa_nil)))))))))))))), ?_⟩
    obtain ⟨a, us, rfl, hS, hP⟩ := id hG
    obtain ⟨b, tv, rfl, hB, c, tvs, rfl, hC, hT⟩ := id hM
    have n1 := mok.n1
    have n6 := mok.n6
    have lS : us.length = sg.length := paired_len hP
    have lT : tvs.length = ts.length := paired_len hT
    have lM : ts.length = sg.length := mok.len
    refine q_drop (ev_callV (v := .non) sg (ea_cons (ev_var rfl) ea_nil) (fun H1 e1 => ⟨⟨_, rfl, hG.ex e1⟩, sok⟩) (fun _ _ p => p)) fun H1 e1 => ?_
    refine q_when (b := false) (et_is (et_or (et_not (et_val (ev_isi (ev_var rfl) ev_c (.ty _) (fun _ e => tyx_tup (ex_t (e1.trans e) hB)) kit_tt))) (fun _ => et_test (ev_op (ev_lenT (ev_var rfl) (ex_t e1 hB)) ev_c (rv_ne rfl)))) rfl) (fun hb => by cases hb) (fun _ H2 e2 => ?_)
    have e02 := e1.trans e2
    -- size, tables = thing
    refine ⟨.ref b, rfl, b, _, rfl, ex_t e02 hB, rfl, _, _, rfl, _, _, rfl, rfl, ?_⟩
    refine q_when (b := false) (et_is (et_not (et_val (ev_callV (v := .bl true) n (ea_cons (ev_var rfl) ea_nil) (fun _ _ => ⟨rfl, n1, n6⟩) (fun _ _ p => p)))) rfl) (fun hb => by cases hb) (fun _ H3 e3 => ?_)
    have e03 := e02.trans e3
    refine q_when (b := false) (et_is (et_or (et_not (et_val (ev_isi (ev_var rfl) ev_c (.ty _) (fun _ e => tyx_tup (ex_t (e03.trans e) hC)) kit_tt))) (fun _ => et_test (ev_op (ev_lenT (ev_var rfl) (ex_t e03 hC)) (ev_lenT (ev_var rfl) (ex_t e03 hS)) (rv_ne rfl)))) ?_) (fun hb => by cases hb) (fun _ H4 e4 => ?_)
    · show (!true || !decide (V.int (tvs.length : Int) = V.int (us.length : Int))) = false
      rw [lT, lS, lM, decide_eq_true rfl]
      rfl
    have e04 := e03.trans e4
    refine q_enumT (ea_cons (ev_var rfl) ea_nil) (ex_t e04 hS) (fun i σ H' => Ex H H' ∧ ∃ y4 y5, σ = [some (.ref a), some (.ref b), some (vi n), some (.ref c), y4, y5, none]) (fun H5 e5 => ⟨e04.trans e5, none, none, rfl⟩) (fun i σ H' _ ⟨e, _⟩ => ex_t e hS) (fun i x σ H5 H6 hx ⟨e, y4, y5, hσ⟩ e6 => ?_) (fun σ H5 ⟨e5, y4, y5, hσ⟩ => ?_)
    · subst hσ
      have hi : i < sg.length := by rw [← lS]; exact (List.getElem?_eq_some_iff.mp hx).1
      have hi2 : i < ts.length := by rw [lM]; exact hi
      obtain ⟨x', ex', d, hd, dd⟩ := paired_get hP (List.getElem?_eq_getElem hi)
      have : x' = x := Option.some.inj (ex'.symm.trans hx)
      subst this
      subst hd
      obtain ⟨y', ey', r, hr', rr⟩ := paired_get hT (List.getElem?_eq_getElem hi2)
      subst hr'
      have e06 : Ex H H6 := e.trans e6
      have tb := mok.tab i hi hi2
      have p2 : sg[i].2 ≤ 2 := sok.pl _ (List.getElem_mem hi)
      have tk : Ev (tOp (rIxT K) (tVar 3) (tVar 4)) [some (.ref a), some (.ref b), some (vi n), some (.ref c), some (vi i), some (.ref d), none] H6 (.ref r) := ev_op (ev_var rfl) (ev_var rfl) (rv_ixT (ex_t e06 hC) (atI_vi ey'))
      refine s_when (b := false) (et_is (et_or (et_not (et_val (ev_isi tk ev_c (.ty _) (fun _ e => tyx_tup (ex_t (e06.trans e) rr)) kit_tt))) (fun _ => et_test (ev_op (ev_lenT tk (ex_t e06 rr)) (ev_callV (v := vi (n ^ sg[i].2)) (n, sg[i].2) (ea_cons (ev_var rfl) (ea_cons (ev_op (ev_var rfl) ev_c (rv_ixT (ex_t e06 dd) (atI_vi (k := 1) rfl))) ea_nil)) (fun _ _ => ⟨rfl, n6, p2⟩) (fun _ _ p => p)) (rv_ne rfl)))) ?_) (fun hb => by cases hb) (fun _ H7 e7 => ⟨e06.trans e7, _, _, rfl⟩)
      show (!true || !decide (V.int (((ts[i].map vi).length : Nat) : Int) = vi (n ^ sg[i].2))) = false
      rw [List.length_map, tb.len, decide_eq_true rfl]
      rfl
    · subst hσ
      refine q_asg (ev_callV (v := .non) (n, ts) (ea_cons (ev_var rfl) (ea_cons (ev_var rfl) ea_nil)) (fun H6 e6 => ⟨⟨_, rfl, c, tvs, rfl, ex_t (e5.trans e6) hC, paired_imp (fun _ _ z => z.ex (e5.trans e6)) hT⟩, mok.low⟩) (fun _ _ p => p)) fun H6 e6 => ?_
      refine s_ret (ev_if (b := true) ?_ (fun _ => ev_c) (fun hb => by cases hb)) fun H7 e7 => q _ H7 ((e5.trans e6).trans e7) rfl
      exact fun H7 e7 Q q => ⟨_, rfl, rfl, _, rfl, q H7 (Ex.refl H7)⟩
def sp_need_model (K : PySem.W.Frag) : Sp := spX (fun (p : List (Str × Nat) × Nat × List (List Nat)) vs H => (∃ u v, vs = [u, v] ∧ Sig K H u p.1 ∧ Mdl K H v p.2.1 p.2.2) ∧ SigOk p.1 ∧ MdlOk p.1 p.2.1 p.2.2) (fun _ v _ => v = .non)
theorem c_need_model (T : Txt mg) (D : Df K mg "need_model" s_need_model ["signature", "model"]) (c_model_wrong : Cl P w K mg base 6 "model_wrong" (sp_model_wrong K)) : Cl P w K mg base 7 "need_model" (sp_need_model K) := by
  refine cl_of (k := 6) D sc_need_model (fun vs H Q E h => ?_) (fun f cdv A outer s H vs Q E hr h => ?_)
  · obtain ⟨p, ⟨⟨u, v, rfl, _⟩, _⟩, _⟩ := h
    rfl
  · obtain ⟨p, ⟨⟨u, v, rfl, hG, hM⟩, sok, mok⟩, q⟩ := h
    refine ⟨_, (pss_one (ps_if (pt_cmpR op_notN (pe_cl c_model_wrong hr (by first | decide | omega) (by rfl) (pa_cons (pv 0) (pa_cons (pv 1) pa_nil))) pe_non (nomark _))
        (pss_one ps_never)
        pss_nil)), ?_⟩
    exact s_when (b := false) (et_is (et_isN (ev_callV (v := .non) p (ea_cons (ev_var rfl) (ea_cons (ev_var rfl) ea_nil)) (fun H1 e1 => ⟨⟨_, _, rfl, hG.ex e1, hM.ex e1⟩, sok, mok⟩) (fun _ _ p => p))) rfl) (fun hb => by cases hb) (fun _ H1 e1 => q _ H1 e1 rfl)
end
end K22
end
section
namespace K22
open PySem PySem.Spec PyProof.Rows L2 Evl Dw M20
/-! ### more mathematics -/
/-- the first i numbers met -/
def met (n : Nat) (o : List Nat) (i : Nat) : List Bool := (List.range n).map fun k => decide (o.idxOf k < i)
theorem met_0 (n : Nat) (o : List Nat) : met n o 0 = List.replicate n false := by
  unfold met
  rw [show (fun k => decide (o.idxOf k < 0)) = fun _ => false from funext fun k => decide_eq_false (Nat.not_lt_zero _), List.map_const', List.length_range]
theorem met_at {n : Nat} {o : List Nat} (h : Ord n o) {i : Nat} (hi : i < n) : (met n o i)[g o i]? = some false := by
  unfold met
  rw [List.getElem?_map, List.getElem?_range (h.low i hi)]
  show some (decide (o.idxOf (g o i) < i)) = some false
  rw [idx_of h hi, decide_eq_false (Nat.lt_irrefl _)]
theorem idx_is {n : Nat} {o : List Nat} (h : Ord n o) {k i : Nat} (hk : k < n) (e : o.idxOf k = i) : g o i = k := by
  have := g_bk h hk
  rw [bk, g_map (by rw [h.len]; exact hk), e] at this
  exact this
theorem met_set {n : Nat} {o : List Nat} (h : Ord n o) {i : Nat} (hi : i < n) : (met n o i).set (g o i) true = met n o (i + 1) := by
  apply List.ext_getElem?
  intro k
  have hl : (met n o i).length = n := by simp [met]
  rw [List.getElem?_set, hl]
  by_cases hk : k < n
  · have e2 : (met n o (i + 1))[k]? = some (decide (o.idxOf k < i + 1)) := by
      unfold met
      rw [List.getElem?_map, List.getElem?_range hk]
      rfl
    have e1 : (met n o i)[k]? = some (decide (o.idxOf k < i)) := by
      unfold met
      rw [List.getElem?_map, List.getElem?_range hk]
      rfl
    rw [e2]
    by_cases e : g o i = k
    · rw [if_pos e, if_pos (by rw [e]; exact hk), ← e, idx_of h hi, decide_eq_true (Nat.lt_succ_self _)]
    · rw [if_neg e, e1]
      have ne : o.idxOf k ≠ i := fun z => e (idx_is h hk z)
      by_cases q : o.idxOf k < i
      · rw [decide_eq_true q, decide_eq_true (Nat.lt_succ_of_lt q)]
      · rw [decide_eq_false q, decide_eq_false (by omega)]
  · rw [List.getElem?_eq_none_iff.mpr (show (met n o (i + 1)).length ≤ k by simp [met]; omega)]
    have := h.low i hi
    rw [if_neg (by omega), List.getElem?_eq_none_iff.mpr (by rw [hl]; omega)]
/-- the first i numbers called back -/
def bks (n : Nat) (o : List Nat) (i : Nat) : List Nat := (List.range n).map fun k => if o.idxOf k < i then o.idxOf k else 0
theorem bks_0 (n : Nat) (o : List Nat) : bks n o 0 = List.replicate n 0 := by
  unfold bks
  rw [show (fun k => if o.idxOf k < 0 then o.idxOf k else 0) = fun _ => 0 from funext fun k => if_neg (Nat.not_lt_zero _), List.map_const', List.length_range]
theorem bks_len (n : Nat) (o : List Nat) (i : Nat) : (bks n o i).length = n := by simp [bks]
theorem bks_set {n : Nat} {o : List Nat} (h : Ord n o) {i : Nat} (hi : i < n) : (bks n o i).set (g o i) i = bks n o (i + 1) := by
  apply List.ext_getElem?
  intro k
  have hl : (bks n o i).length = n := bks_len n o i
  rw [List.getElem?_set, hl]
  by_cases hk : k < n
  · have e2 : (bks n o (i + 1))[k]? = some (if o.idxOf k < i + 1 then o.idxOf k else 0) := by
      unfold bks
      rw [List.getElem?_map, List.getElem?_range hk]
      rfl
    have e1 : (bks n o i)[k]? = some (if o.idxOf k < i then o.idxOf k else 0) := by
      unfold bks
      rw [List.getElem?_map, List.getElem?_range hk]
      rfl
    rw [e2]
    by_cases e : g o i = k
    · rw [if_pos e, if_pos (by rw [e]; exact hk), ← e, idx_of h hi, if_pos (Nat.lt_succ_self _)]
    · rw [if_neg e, e1]
      have ne : o.idxOf k ≠ i := fun z => e (idx_is h hk z)
      by_cases q : o.idxOf k < i
      · rw [if_pos q, if_pos (Nat.lt_succ_of_lt q)]
      · rw [if_neg q, if_neg (by omega)]
  · rw [List.getElem?_eq_none_iff.mpr (show (bks n o (i + 1)).length ≤ k by rw [bks_len]; omega)]
    have := h.low i hi
    rw [if_neg (by omega), List.getElem?_eq_none_iff.mpr (by rw [hl]; omega)]
theorem bks_all {n : Nat} {o : List Nat} (h : Ord n o) : bks n o n = bk o := by
  unfold bks bk
  rw [h.len]
  apply List.map_congr_left
  intro k hk
  have hk' := List.mem_range.mp hk
  rw [if_pos (by rw [← h.len]; exact List.idxOf_lt_length_of_mem (hits n o h k hk'))]
theorem flat_range {α : Type} (m : Nat) (hm : 0 < m) (f : Nat → Nat → α) : ∀ n, ((List.range n).flatMap fun i => (List.range m).map (f i)) = (List.range (n * m)).map fun s => f (s / m) (s % m)
  | 0 => by rw [Nat.zero_mul]; rfl
  | n + 1 => by
    rw [List.range_succ, List.flatMap_append, flat_range m hm f n, List.flatMap_singleton, Nat.add_mul, Nat.one_mul, List.range_add, List.map_append, List.map_map]
    congr 1
    apply List.map_congr_left
    intro k hk
    have hk' := List.mem_range.mp hk
    show f n k = f ((n * m + k) / m) ((n * m + k) % m)
    rw [Nat.add_comm (n * m) k, Nat.add_mul_div_right _ _ hm, Nat.div_eq_of_lt hk', Nat.zero_add, Nat.add_mul_mod_self_right, Nat.mod_eq_of_lt hk']
theorem vi_get {l : List Nat} {k : Nat} (h : k < l.length) : (l.map vi)[k]? = some (vi (g l k)) := by
  rw [List.getElem?_map, g_eq h]
  rfl
section
variable {P : Program} {w : World} {K : PySem.W.Frag} {mg : Str → Option Value} {base : Heap}
/-! ### orders -/
def sp_is_order (K : PySem.W.Frag) : Sp := spX (fun (p : Nat × List Nat) vs H => (∃ v, vs = [v, vi p.1] ∧ Nats K H v p.2) ∧ Ord p.1 p.2 ∧ p.1 ≤ 6) (fun _ v _ => v = .bl true)
theorem c_are_unlike_below (T : Txt mg) (D : Df K mg "are_unlike_below" s_are_unlike_below ["things", "size"]) (c_is_below : Cl P w K mg base 2 "is_below" sp_is_below) : Cl P w K mg base 3 "are_unlike_below" (sp_is_order K) := by
  refine cl_of (k := 2) D sc_are_unlike_below (fun vs H Q E h => ?_) (fun f cdv A outer s H vs Q E hr h => ?_)
  · obtain ⟨p, ⟨⟨v, rfl, _⟩, _⟩, _⟩ := h
    rfl
  · obtain ⟨⟨n, o⟩, ⟨⟨v, rfl, a, rfl, hS⟩, ord, n6⟩, q⟩ := h
    refine ⟨_, (pss_cons (ps_set (i := 2) sc_are_unlike_below.nd rfl (.inl rfl) (pe_op op_rep (pe_lst (pa_cons pe_bl pa_nil)) (pv 1)))
      (pss_cons (ps_for PassesOwn.never (by rfl) (pi_tup (pv 0)) (pg_name (i := 3) sc_are_unlike_below.nd rfl (.inl rfl))
        (pss_cons (ps_if (PW.pt (pw_or (pt_not (pt_val (pe_cl c_is_below hr (by first | decide | omega) (by rfl) (pa_cons (pv 3) (pa_cons (pv 1) pa_nil))))) (pw_or1 (pt_val (pe_ix ix_list (pv 2) (pv 3) (fun _ _ => rfl))))))
          (pss_one (ps_ret pe_bl))
          pss_nil)
        (pss_one (ps_asg pe_bl (pg_sub (pv 2) (pv 3) set_list)))))
      (pss_one (ps_ret pe_bl)))), ?_⟩
    have n6' : n ≤ 6 := n6
    have ln : o.length = n := ord.len
    have lo : (o.map vi).length = n := by rw [List.length_map, ln]
    refine q_asgL (el_rep (el_lst (ea_cons ev_c ea_nil) (by decide)) (ev_var rfl) (by show 1 * n ≤ _; omega) (by omega)) fun m H2 nm e2 hm => ?_
    rw [rep1] at hm
    have nH : H m = none := nm
    refine q_forT (ev_var rfl) (ex_t e2 hS) (fun i σ H' => Ex H H' ∧ H' m = some (.lst ((met n o i).map V.bl)) ∧ ∃ y, σ = [some (.ref a), some (vi n), some (.ref m), y]) (fun H3 e3 => ⟨e2.trans e3, by rw [met_0, List.map_replicate]; exact e3 _ _ hm, none, rfl⟩) (fun i σ H' _ ⟨e, _⟩ => ex_t e hS) (fun i x σ H3 hx ⟨e3, hm3, y, hσ⟩ => ?_) (fun σ H3 ⟨e3, _, y, hσ⟩ => ?_)
    · subst hσ
      have hi : i < n := by rw [← lo]; exact (List.getElem?_eq_some_iff.mp hx).1
      have ex : x = vi (g o i) := by
        rw [vi_get (by rw [ln]; exact hi)] at hx
        exact (Option.some.inj hx).symm
      subst ex
      have low : g o i < n := ord.low i hi
      have ml : ((met n o i).map V.bl).length = n := by simp [met]
      have at0 : ((met n o i).map V.bl)[g o i]? = some (.bl false) := by rw [List.getElem?_map, met_at ord hi]; rfl
      refine q_when (b := false) (et_is (et_or (et_not (et_val (ev_callV (v := .bl true) (((g o i : Nat) : Int), (n : Int)) (ea_cons (ev_var rfl) (ea_cons (ev_var rfl) ea_nil)) (fun _ _ => ⟨rfl, by show (0 : Int) ≤ ((g o i : Nat) : Int); omega, by show ((g o i : Nat) : Int) < (n : Int); omega⟩) (fun _ _ p => p)))) (fun _ => et_val (ev_op (ev_var rfl) (ev_var rfl) (rv_ixL (sq_of hm3) (atI_vi at0))))) rfl) (fun hb => by cases hb) (fun _ H4 e4 => ?_)
      refine s_setL (e4 _ _ hm3) ev_c (ev_var rfl) (ev_var rfl) (by rw [ml]; exact low) (fun H5 e5 => ⟨((e3.trans e4).trans e5).mut nH, ?_, _, rfl⟩)
      rw [upd_same, ← met_set ord hi, List.map_set]
    · subst hσ
      exact s_ret ev_c fun H4 e4 => q _ H4 (e3.trans e4) rfl
theorem c_is_order (T : Txt mg) (D : Df K mg "is_order" s_is_order ["thing", "size"]) (c_are_unlike_below : Cl P w K mg base 3 "are_unlike_below" (sp_is_order K)) : Cl P w K mg base 4 "is_order" (sp_is_order K) := by
  refine cl_of (k := 3) D sc_is_order (fun vs H Q E h => ?_) (fun f cdv A outer s H vs Q E hr h => ?_)
  · obtain ⟨p, ⟨⟨v, rfl, _⟩, _⟩, _⟩ := h
    rfl
  · obtain ⟨⟨n, o⟩, ⟨⟨v, rfl, a, rfl, hS⟩, ord, n6⟩, q⟩ := h
    refine ⟨_, (pss_one (ps_ret (pe_and (pe_callB call_isi (by rfl) T.z_isinstance (by decide +kernel) (pa_cons (pv 0) (pa_cons (pe_ty "tuple" (by rfl) T.z_tuple (by decide +kernel)) pa_nil))) (pe_and (pe_cmpR op_eq (pe_callB call_len_seq (by rfl) T.z_len PySem.boot_len (pa_cons (pv 0) pa_nil)) (pv 1) (nomark _)) (pe_one (pe_cl c_are_unlike_below hr (by first | decide | omega) (by rfl) (pa_cons (pv 0) (pa_cons (pv 1) pa_nil)))))))), ?_⟩
    have n6' : n ≤ 6 := n6
    have ln : o.length = n := ord.len
    have lo : (o.map vi).length = n := by rw [List.length_map, ln]
    refine s_ret (v := .bl (true && (decide (V.int ((o.map vi).length : Int) = vi n) && true))) (ev_andV (a := true) (ev_isi (ev_var rfl) ev_c (.ty _) (fun _ e => tyx_tup (ex_t e hS)) kit_tt) (fun _ => ev_andV (ev_op (ev_lenT (ev_var rfl) hS) (ev_var rfl) (rv_eq rfl)) (fun _ => ev_callV (v := .bl true) (n, o) (ea_cons (ev_var rfl) (ea_cons (ev_var rfl) ea_nil)) (fun H1 e1 => ⟨⟨_, rfl, a, rfl, ex_t e1 hS⟩, ord, n6⟩) (fun _ _ p => p)))) fun H1 e1 => q _ H1 e1 ?_
    show V.bl (true && (decide (V.int ((o.map vi).length : Int) = vi n) && true)) = V.bl true
    rw [lo, decide_eq_true rfl]
    rfl
def sp_turned_back (K : PySem.W.Frag) : Sp := spX (fun (p : Nat × List Nat) vs H => (∃ v, vs = [v] ∧ Nats K H v p.2) ∧ Ord p.1 p.2 ∧ p.1 ≤ 6) (fun p v H => Nats K H v (bk p.2))
theorem c_turned_back (T : Txt mg) (D : Df K mg "turned_back" s_turned_back ["order"]) : Cl P w K mg base 1 "turned_back" (sp_turned_back K) := by
  refine cl_of (k := 0) D sc_turned_back (fun vs H Q E h => ?_) (fun f cdv A outer s H vs Q E hr h => ?_)
  · obtain ⟨p, ⟨⟨v, rfl, _⟩, _⟩, _⟩ := h
    rfl
  · obtain ⟨⟨n, o⟩, ⟨⟨v, rfl, a, rfl, hS⟩, ord, n6⟩, q⟩ := h
    refine ⟨_, (pss_cons (ps_set (i := 1) sc_turned_back.nd rfl (.inl rfl) (pe_op op_rep (pe_lst (pa_cons pe_int pa_nil)) (pe_callB call_len_seq (by rfl) T.z_len PySem.boot_len (pa_cons (pv 0) pa_nil))))
      (pss_cons (ps_for PassesOwn.never (by rfl) (pi_enumT (by rfl) T.z_enumerate (pa_cons (pv 0) pa_nil)) (pg_tup (by rfl) (pgs_cons (pg_name (i := 2) sc_turned_back.nd rfl (.inl rfl)) (pgs_cons (pg_name (i := 3) sc_turned_back.nd rfl (.inl rfl)) pgs_nil)))
        (pss_one (ps_asg (pv 2) (pg_sub (pv 1) (pv 3) set_list))))
      (pss_one (ps_ret (pe_callTy call_tuple_of (by rfl) T.z_tuple (by decide +kernel) (pa_cons (pv 1) pa_nil)))))), ?_⟩
    have n6' : n ≤ 6 := n6
    have ln : o.length = n := ord.len
    have lo : (o.map vi).length = n := by rw [List.length_map, ln]
    have len : Ev (tCB (rLenS K) (tCons (tVar 0) tNil)) [some (.ref a), none, none, none] H (vi n) := by
      have := ev_lenT (σ := [some (.ref a), none, none, none]) (ta := tVar 0) (ev_var rfl) hS
      rw [lo] at this
      exact this
    refine q_asgL (el_rep (el_lst (ea_cons ev_c ea_nil) (by decide)) len (by show 1 * n ≤ _; omega) (by omega)) fun m H2 nm e2 hm => ?_
    rw [rep1] at hm
    refine q_enumT (ea_cons (ev_var rfl) ea_nil) (ex_t e2 hS) (fun i σ H' => Ex H H' ∧ H' m = some (.lst ((bks n o i).map vi)) ∧ ∃ y2 y3, σ = [some (.ref a), some (.ref m), y2, y3]) (fun H3 e3 => ⟨e2.trans e3, by rw [bks_0, List.map_replicate]; exact e3 _ _ hm, none, none, rfl⟩) (fun i σ H' _ ⟨e, _⟩ => ex_t e hS) (fun i x σ H3 H4 hx ⟨e3, hm3, y2, y3, hσ⟩ e4 => ?_) (fun σ H3 ⟨e3, hm3, y2, y3, hσ⟩ => ?_)
    · subst hσ
      have hi : i < n := by rw [← lo]; exact (List.getElem?_eq_some_iff.mp hx).1
      have ex : x = vi (g o i) := by
        rw [vi_get (by rw [ln]; exact hi)] at hx
        exact (Option.some.inj hx).symm
      subst ex
      have low : g o i < n := ord.low i hi
      refine s_setL (e4 _ _ hm3) (ev_var rfl) (ev_var rfl) (ev_var rfl) (by rw [List.length_map, bks_len]; exact low) (fun H5 e5 => ⟨((e3.trans e4).trans e5).mut nm, ?_, _, _, rfl⟩)
      rw [upd_same, ← bks_set ord hi, List.map_set]
    · subst hσ
      rw [lo, bks_all ord] at hm3
      exact s_retP (ep_nats (K := K) (eu_tupL (ev_var rfl) (sq_of hm3)) rfl) fun v H4 e4 p => q _ H4 (e3.trans e4) p
/-! ### tables renamed -/
def sp_renamed_table (K : PySem.W.Frag) : Sp := spX (fun (p : Nat × Nat × List Nat × List Nat) vs H => (∃ v u, vs = [vi p.1, vi p.2.1, v, u] ∧ Nats K H v p.2.2.1 ∧ Nats K H u p.2.2.2) ∧ Tab p.1 p.2.1 p.2.2.1 ∧ Ord p.1 p.2.2.2 ∧ 1 ≤ p.1 ∧ p.1 ≤ 6 ∧ p.2.1 ≤ 2)
  (fun p v H => Nats K H v (ren p.1 p.2.1 p.2.2.2 p.2.2.1))
theorem c_renamed_table (T : Txt mg) (D : Df K mg "renamed_table" s_renamed_table ["size", "places", "table", "order"]) (c_turned_back : Cl P w K mg base 1 "turned_back" (sp_turned_back K)) : Cl P w K mg base 2 "renamed_table" (sp_renamed_table K) := by
  refine cl_of (k := 1) D sc_renamed_table (fun vs H Q E h => ?_) (fun f cdv A outer s H vs Q E hr h => ?_)
  · obtain ⟨p, ⟨⟨v, u, rfl, _⟩, _⟩, _⟩ := h
    rfl
  · obtain ⟨⟨n, p, t, o⟩, ⟨⟨v, u, rfl, hV, hU⟩, tab, ord, n1, n6, p2⟩, q⟩ := h
    refine ⟨_, (pss_cons (ps_set (i := 4) sc_renamed_table.nd rfl (.inr rfl) (pe_cl c_turned_back hr (by first | decide | omega) (by rfl) (pa_cons (pv 3) pa_nil)))
      (pss_cons (ps_if (pt_cmpR op_eq (pv 1) pe_int (nomark _))
        (pss_one (ps_ret (pe_tup (pa_cons (pe_ix ix_tup (pv 3) (pe_ix ix_tup (pv 2) pe_int (fun _ _ => rfl)) (fun _ _ => rfl)) pa_nil))))
        pss_nil)
      (pss_cons (ps_if (pt_cmpR op_eq (pv 1) pe_int (nomark _))
        (pss_one (ps_ret (pe_callTy call_tuple_of (by rfl) T.z_tuple (by decide +kernel) (pa_cons (pe_lc (own := [("number", 5)]) (g := (gName 5)) (by rfl) sc_renamed_table.nd (pi_tup (pv 4)) (blkOk_by (own := [("number", 5)]) (N := ["size", "places", "table", "order", "back", "number", "one", "other"]) (sc := (defScope s_renamed_table)) (by decide +kernel)) (fun _ _ _ _ _ => (pg_name (i := 5) sc_renamed_table.nd rfl (.inl rfl))) (fun _ _ _ _ _ => pts_nil) (fun _ _ _ _ _ => (pe_ix (ix_tupK K) (pv 3) (pe_ix (ix_tupK K) (pv 2) (pv 5) (fun _ _ => rfl)) (fun _ _ => rfl)))) pa_nil))))
        pss_nil)
      (pss_one (ps_ret (pe_callTy call_tuple_of (by rfl) T.z_tuple (by decide +kernel) (pa_cons (pe_lc2 (own := [("one", 6), ("other", 7)]) (g := (gName 6)) (g1 := (gName 7)) (vs1 := [7]) (by rfl) sc_renamed_table.nd (pi_tup (pv 4)) (blkOk_by (own := [("one", 6), ("other", 7)]) (N := ["size", "places", "table", "order", "back", "number", "one", "other"]) (sc := (defScope s_renamed_table)) (by decide +kernel)) (by decide) (fun _ _ _ _ _ => (pg_name (i := 6) sc_renamed_table.nd rfl (.inl rfl))) (fun _ _ _ _ _ => pts_nil) (fun _ _ _ _ _ => (pi_tupK K (pv 4))) (fun _ _ _ _ _ => (pg_name (i := 7) sc_renamed_table.nd rfl (.inl rfl))) (fun _ _ _ _ _ => pts_nil) (fun _ _ _ _ _ => (pe_ix (ix_tupK K) (pv 3) (pe_ix (ix_tupK K) (pv 2) (pe_op op_add (pe_op op_mul (pv 6) (pv 0)) (pv 7)) (fun _ _ => rfl)) (fun _ _ => rfl)))) pa_nil))))))), ?_⟩
    replace tab : Tab n p t := tab
    replace ord : Ord n o := ord
    replace n1 : 1 ≤ n := n1
    replace n6 : n ≤ 6 := n6
    replace p2 : p ≤ 2 := p2
    obtain ⟨a, rfl, hA⟩ := id hV
    obtain ⟨b, rfl, hB⟩ := id hU
    have low : ∀ k, k < n ^ p → g t k < n := tab.low
    have pick : ∀ {te : TE} {σ : L2.St} {H1 : Hp} {k : Nat}, Ex H H1 → σ[2]? = some (some (.ref a)) → σ[3]? = some (some (.ref b)) → k < n ^ p → Ev te σ H1 (vi k) → Ev (tOp (rIxT K) (tVar 3) (tOp (rIxT K) (tVar 2) te)) σ H1 (vi (g o (g t k))) := by
      intro te σ H1 k e h2 h3 hk hte
      exact ev_op (ev_var h3) (ev_op (ev_var h2) hte (rv_ixT (ex_t e hA) (atI_vi (vi_get (by rw [tab.len]; exact hk))))) (rv_ixT (ex_t e hB) (atI_vi (vi_get (by rw [ord.len]; exact low k hk))))
    refine q_asgP (ep_call (n, o) (ea_cons (ev_var rfl) ea_nil) (fun H1 e1 => ⟨⟨_, rfl, hU.ex e1⟩, ord, n6⟩)) fun v H1 e1 hv => ?_
    obtain ⟨c, rfl, hC⟩ := hv
    replace hC : SqT K H1 c ((bk o).map vi) := hC
    have bl : (bk o).length = n := by rw [bk_len, ord.len]
    have bm : ((bk o).map vi).length = n := by rw [List.length_map, bl]
    refine q_when (et_test (ev_op (ev_var rfl) ev_c (rv_eq rfl))) (fun hb H2 e2 => ?_) (fun hb H2 e2 => ?_)
    · have p0 : p = 0 := by
        have z : (p : Int) = 0 := V.int.inj (of_decide_eq_true hb)
        omega
      subst p0
      refine s_retP (ep_nats (K := K) (ns := ren n 0 o t) (eu_tup (ea_cons (pick (k := 0) (e1.trans e2) rfl rfl (by simp) ev_c) ea_nil) (by show 1 ≤ 100000; decide)) rfl) fun v H3 e3 hv => q _ H3 ((e1.trans e2).trans e3) hv
    · have p0 : p ≠ 0 := fun z => by
        subst z
        exact absurd rfl (of_decide_eq_false hb)
      refine q_when (et_test (ev_op (ev_var rfl) ev_c (rv_eq rfl))) (fun hb H3 e3 => ?_) (fun hb H3 e3 => ?_)
      · have p1 : p = 1 := by
          have z : (p : Int) = 1 := V.int.inj (of_decide_eq_true hb)
          omega
        subst p1
        have e03 : Ex H H3 := (e1.trans e2).trans e3
        refine s_retP (ep_nats (K := K) (ns := ren n 1 o t) (eu_tupN (el_lcT (K := K) (ev_var rfl) (ex_t (e2.trans e3) hC) (fun i => vi (g o (g t (g (bk o) i)))) (by omega) (fun _ => rfl) (fun i x H4 e4 hx => ?_))) ?_) fun v H4 e4 hv => q _ H4 (e03.trans e4) hv
        · have hi : i < n := by rw [← bm]; exact (List.getElem?_eq_some_iff.mp hx).1
          rw [vi_get (by rw [bl]; exact hi)] at hx
          have ex := Option.some.inj hx
          subst ex
          exact pick (e03.trans e4) rfl rfl (by rw [Nat.pow_one]; exact bk_low ord hi) (ev_var rfl)
        · rw [bm]
          unfold ren
          rw [Nat.pow_one, List.map_map]
          rfl
      · have p2' : p = 2 := by
          have : p ≠ 1 := fun z => by
            subst z
            exact absurd rfl (of_decide_eq_false hb)
          omega
        subst p2'
        have e03 : Ex H H3 := (e1.trans e2).trans e3
        refine s_retP (ep_nats (K := K) (ns := ren n 2 o t) (eu_tupN (el_lc2T (K := K) (ev_var rfl) (ex_t (e2.trans e3) hC) (fun x H4 e4 => ev_var rfl) (ex_t (e2.trans e3) hC) (fun i k => vi (g o (g t (g (bk o) i * n + g (bk o) k)))) (by omega) (by omega) (fun _ => rfl) (fun _ _ => rfl) (fun i x k y H4 e4 hx hy => ?_))) ?_) fun v H4 e4 hv => q _ H4 (e03.trans e4) hv
        · have hi : i < n := by rw [← bm]; exact (List.getElem?_eq_some_iff.mp hx).1
          have hk : k < n := by rw [← bm]; exact (List.getElem?_eq_some_iff.mp hy).1
          rw [vi_get (by rw [bl]; exact hi)] at hx
          rw [vi_get (by rw [bl]; exact hk)] at hy
          have ex := Option.some.inj hx
          have ey := Option.some.inj hy
          subst ex
          subst ey
          have bi := bk_low ord hi
          have bk' := bk_low ord hk
          have sum : Ev (tOp (rI0 fun i j => .int (i + j)) (tOp (rI CMul fun i j => .int (i * j)) (tVar 6) (tVar 0)) (tVar 7)) [some (vi n), some (vi 2), some (.ref a), some (.ref b), some (.ref c), none, some (vi (g (bk o) i)), some (vi (g (bk o) k))] H4 (vi (g (bk o) i * n + g (bk o) k)) := by
            have := ev_op (r := rI0 fun i j => .int (i + j)) (H := H4) (σ := [some (vi n), some (vi 2), some (.ref a), some (.ref b), some (.ref c), none, some (vi (g (bk o) i)), some (vi (g (bk o) k))]) (ev_op (r := rI CMul fun i j => .int (i * j)) (ta := tVar 6) (tb := tVar 0) (ev_var rfl) (ev_var rfl) (rv_I (Or.inr ⟨by omega, by omega⟩))) (tb := tVar 7) (ev_var rfl) rv_I0
            refine ev_is this ?_
            show V.int (((g (bk o) i : Nat) : Int) * (n : Int) + ((g (bk o) k : Nat) : Int)) = V.int ((g (bk o) i * n + g (bk o) k : Nat) : Int)
            rw [Int.natCast_add, Int.natCast_mul]
          exact pick (e03.trans e4) rfl rfl (by rw [Nat.pow_two]; exact mul_lt bi bk') sum
        · rw [bm, flat_range n n1]
          unfold ren
          rw [Nat.pow_two, List.map_map]
          rfl
end
end K22
end
section
namespace K22
open PySem PySem.Spec PyProof.Rows L2 Evl RZ Dw M20
/-- all tables renamed -/
def rens (n : Nat) (o : List Nat) (sg : List (Str × Nat)) (ts : List (List Nat)) : List (List Nat) := List.zipWith (fun p t => ren n p.2 o t) sg ts
theorem rens_len {n : Nat} {o : List Nat} {sg : List (Str × Nat)} {ts : List (List Nat)} (h : ts.length = sg.length) : (rens n o sg ts).length = sg.length := by
  unfold rens
  rw [List.length_zipWith, h, Nat.min_self]
theorem rens_at {n : Nat} {o : List Nat} {sg : List (Str × Nat)} {ts : List (List Nat)} {i : Nat} (h1 : i < sg.length) (h2 : i < ts.length) : (rens n o sg ts)[i]? = some (ren n sg[i].2 o ts[i]) := by
  unfold rens
  rw [List.getElem?_zipWith, List.getElem?_eq_getElem h1, List.getElem?_eq_getElem h2]
theorem rens_ok {n : Nat} {o : List Nat} {sg : List (Str × Nat)} {ts : List (List Nat)} (m : MdlOk sg n ts) (so : SigOk sg) (ho : Ord n o) : MdlOk sg n (rens n o sg ts) := by
  refine ⟨m.n1, m.n6, rens_len m.len, fun i h1 h2 => ?_⟩
  have h3 : i < ts.length := by rw [m.len]; exact h1
  have e := rens_at (n := n) (o := o) h1 h3
  rw [List.getElem?_eq_getElem h2] at e
  rw [Option.some.inj e]
  exact ren_tab (so.pl _ (List.getElem_mem h1)) ho (m.tab i h1 h3)
section
variable {P : Program} {w : World} {K : PySem.W.Frag} {mg : Str → Option Value} {base : Heap}
def sp_renamed_tables (K : PySem.W.Frag) : Sp := spX (fun (p : List (Str × Nat) × Nat × List (List Nat) × List Nat) vs H => (∃ u v x, vs = [u, vi p.2.1, v, x] ∧ Sig K H u p.1 ∧ Tabs K H v p.2.2.1 ∧ Nats K H x p.2.2.2) ∧ SigOk p.1 ∧ MdlOk p.1 p.2.1 p.2.2.1 ∧ Ord p.2.1 p.2.2.2)
  (fun p v H => Tabs K H v (rens p.2.1 p.2.2.2 p.1 p.2.2.1))
theorem c_renamed_tables (T : Txt mg) (D : Df K mg "renamed_tables" s_renamed_tables ["signature", "size", "tables", "order"]) (c_renamed_table : Cl P w K mg base 2 "renamed_table" (sp_renamed_table K)) : Cl P w K mg base 3 "renamed_tables" (sp_renamed_tables K) := by
  refine cl_of (k := 2) D sc_renamed_tables (fun vs H Q E h => ?_) (fun f cdv A outer s H vs Q E hr h => ?_)
  · obtain ⟨p, ⟨⟨u, v, x, rfl, _⟩, _⟩, _⟩ := h
    rfl
  · obtain ⟨⟨sg, n, ts, o⟩, ⟨⟨u, v, x, rfl, hG, hT, hO⟩, sok, mok, ord⟩, q⟩ := h
    refine ⟨_, (pss_cons (ps_set (i := 4) sc_renamed_tables.nd rfl (.inl rfl) (pe_lst pa_nil))
      (pss_cons (ps_for PassesOwn.never (by rfl) (pi_zipA (by rfl) T.z_zip (pa_cons (pv 0) (pa_cons (pv 2) pa_nil))) (pg_tup (by rfl) (pgs_cons (pg_tup (by rfl) (pgs_cons (pg_name (i := 5) sc_renamed_tables.nd rfl (.inl rfl)) (pgs_cons (pg_name (i := 6) sc_renamed_tables.nd rfl (.inl rfl)) pgs_nil))) (pgs_cons (pg_name (i := 7) sc_renamed_tables.nd rfl (.inl rfl)) pgs_nil)))
        (pss_one (ps_expr (pe_bm PySem.F.plainAttrs_list PySem.F.slot_list_append PySem.F.type_list_append mt_append (pv 4) (pa_cons (pe_cl c_renamed_table hr (by first | decide | omega) (by rfl) (pa_cons (pv 1) (pa_cons (pv 6) (pa_cons (pv 7) (pa_cons (pv 3) pa_nil))))) pa_nil)))))
      (pss_one (ps_ret (pe_callTy call_tuple_of (by rfl) T.z_tuple (by decide +kernel) (pa_cons (pv 4) pa_nil)))))), ?_⟩
    replace sok : SigOk sg := sok
    replace mok : MdlOk sg n ts := mok
    replace ord : Ord n o := ord
    obtain ⟨a, us, rfl, hS, hP⟩ := id hG
    obtain ⟨b, tvs, rfl, hB, hR⟩ := id hT
    replace hP : Paired (Deed K H) us sg := hP
    replace hR : Paired (Nats K H) tvs ts := hR
    have lS : us.length = sg.length := paired_len hP
    have lT : tvs.length = ts.length := paired_len hR
    have lM : ts.length = sg.length := mok.len
    refine q_asgL (el_lst ea_nil (Nat.zero_le _)) fun m H1 nm e1 hm => ?_
    refine q_zipT (ea_cons (ev_var rfl) (ea_cons (ev_var rfl) ea_nil)) (ex_t e1 hS) (ex_t e1 hB) (by rw [lS, lT, lM]) (fun i σ H' => Ex H H' ∧ (∃ ws, H' m = some (.lst ws) ∧ Paired (Nats K H') ws ((rens n o sg ts).take i)) ∧ ∃ y5 y6 y7, σ = [some (.ref a), some (vi n), some (.ref b), some x, some (.ref m), y5, y6, y7])
      (fun H2 e2 => ⟨e1.trans e2, ⟨[], e2 _ _ hm, .nil⟩, none, none, none, rfl⟩) (fun i σ H' _ ⟨e, _⟩ => ⟨ex_t e hS, ex_t e hB⟩) (fun i d tv p σ H2 hd ht ⟨e2, ⟨ws, hws, pws⟩, y5, y6, y7, hσ⟩ np => ?_) (fun σ H2 ⟨e2, ⟨ws, hws, pws⟩, y5, y6, y7, hσ⟩ => ?_)
    · subst hσ
      have hi : i < sg.length := by rw [← lS]; exact (List.getElem?_eq_some_iff.mp hd).1
      have hi2 : i < ts.length := by rw [lM]; exact hi
      obtain ⟨d', ed', c, hc, dc⟩ := paired_get hP (List.getElem?_eq_getElem hi)
      have : d' = d := Option.some.inj (ed'.symm.trans hd)
      subst this
      subst hc
      obtain ⟨t', et', nt⟩ := paired_get hR (List.getElem?_eq_getElem hi2)
      have : t' = tv := Option.some.inj (et'.symm.trans ht)
      subst this
      have e3 : Ex H2 (upd H2 p (.tup [.ref c, t'])) := Ex.new np
      have e03 : Ex H (upd H2 p (.tup [.ref c, t'])) := e2.trans e3
      -- (name, places), table
      refine ⟨p, _, rfl, st_of upd_same, rfl, _, _, rfl, ⟨c, _, rfl, ex_t e03 dc, rfl, _, _, rfl, _, _, rfl, rfl, ?_⟩⟩
      refine ⟨_, _, rfl, rfl, ?_⟩
      refine s_appP (e3 _ _ hws) (ev_var rfl) (ep_call (n, sg[i].2, ts[i], o) (ea_cons (ev_var rfl) (ea_cons (ev_var rfl) (ea_cons (ev_var rfl) (ea_cons (ev_var rfl) ea_nil)))) (fun H4 e4 => ⟨⟨_, _, rfl, nt.ex (e03.trans e4), hO.ex (e03.trans e4)⟩, mok.tab i hi hi2, ord, mok.n1, mok.n6, sok.pl _ (List.getElem_mem hi)⟩)) ?_ (fun v H4 e4 hv => ?_)
      · have l1 := paired_len pws
        rw [List.length_take, rens_len lM] at l1
        have := sok.l4
        omega
      · have e04 : Ex H H4 := e03.trans e4
        have nH : H m = none := nm
        have hm4 : H4 m = some (.lst ws) := e4 _ _ (e3 _ _ hws)
        refine ⟨e04.mut nH, ⟨ws ++ [v], upd_same, ?_⟩, _, _, _, rfl⟩
        have et : ET K H4 (upd H4 m (.lst (ws ++ [v]))) := ET.refl.upd hm4
        rw [List.take_add_one, rens_at hi hi2]
        exact paired_snoc (Nats.et et hv) (paired_imp (fun _ _ z => Nats.et (ET.trans (Dw.Ex.et (e3.trans e4)) et) z) pws)
    · subst hσ
      have full : (rens n o sg ts).take us.length = rens n o sg ts := List.take_of_length_le (by rw [rens_len lM, lS]; exact Nat.le_refl _)
      rw [full] at pws
      refine eu_tupL (K := K) (ev_var rfl) (sq_of hws) H2 (Ex.refl _) _ fun p H3 np e3 hp => q _ H3 (e2.trans e3) ⟨p, ws, rfl, st_of hp, paired_imp (fun _ _ z => z.ex e3) pws⟩
def sp_renamed (K : PySem.W.Frag) : Sp := spX (fun (p : List (Str × Nat) × Nat × List (List Nat) × List Nat) vs H => (∃ u v x, vs = [u, v, x] ∧ Sig K H u p.1 ∧ Mdl K H v p.2.1 p.2.2.1 ∧ Nats K H x p.2.2.2) ∧ SigOk p.1 ∧ MdlOk p.1 p.2.1 p.2.2.1 ∧ Ord p.2.1 p.2.2.2)
  (fun p v H => Mdl K H v p.2.1 (rens p.2.1 p.2.2.2 p.1 p.2.2.1))
def FNats (H : Hp) (v : V) (ns : List Nat) : Prop := ∃ a ob, v = .ref a ∧ H a = some (.frz ob (.tup (ns.map vi))) ∧ ob.dict = none
theorem FNats.nats {H : Hp} {v : V} {ns : List Nat} (h : FNats H v ns) : Nats K H v ns := let ⟨a, ob, q, s, _⟩ := h; ⟨a, q, .inl (.inr ⟨ob, s⟩)⟩
theorem FNats.ex {H H' : Hp} {v : V} {ns : List Nat} (e : Ex H H') (h : FNats H v ns) : FNats H' v ns := let ⟨a, ob, q, s, d⟩ := h; ⟨a, ob, q, e _ _ s, d⟩
end
end K22
end
section
namespace K22
open PySem PySem.Spec PyProof.Rows L2 Evl RZ Dw M20
theorem big1200 : Builtin.Int.intTooBig (((Builtin.Int.intBits (10 ^ 60) : Nat) : Int) * 20) = false := by decide +kernel
theorem pow1200 {X : Cx} : OpR X (binaryOp .Pow) (fun x y H Q => x = .int (10 ^ 60) ∧ y = .int 20 ∧ Q (.int ((10 ^ 60) ^ (20 : Int).toNat)) H) := op_powG (b := 10 ^ 60) (e := 20) (by decide) (by decide) big1200
/-! ### the purse -/
/-- a purse at p, its cells at c, t draws done -/
def Pur (H : Hp) (p c : Addr) (t : Nat) : Prop := H p = some (.lst [.ref c, vi t]) ∧ ∃ cs : List Int, cs ≠ [] ∧ cs.length ≤ 63 ∧ H c = some (.lst (cs.map V.int))
/-- all but these two as it was -/
def Off (H H' : Hp) (p c : Addr) : Prop := ∀ b o, b ≠ p → b ≠ c → H b = some o → H' b = some o
theorem Off.refl {H : Hp} {p c : Addr} : Off H H p c := fun _ _ _ _ h => h
theorem Off.trans {H H1 H2 : Hp} {p c : Addr} (a : Off H H1 p c) (b : Off H1 H2 p c) : Off H H2 p c := fun x o h1 h2 h => b x o h1 h2 (a x o h1 h2 h)
theorem Off.of_ex {H H' : Hp} {p c : Addr} (e : Ex H H') : Off H H' p c := fun b o _ _ h => e b o h
theorem Pur.ex {H H' : Hp} {p c : Addr} {t : Nat} (e : Ex H H') (h : Pur H p c t) : Pur H' p c t := ⟨e _ _ h.1, let ⟨cs, h1, h2, h3⟩ := h.2; ⟨cs, h1, h2, e _ _ h3⟩⟩
theorem Pur.ne {H : Hp} {p c : Addr} {t : Nat} (h : Pur H p c t) : p ≠ c := fun e => by
  obtain ⟨h1, cs, h2, _, h3⟩ := h
  rw [e, h3] at h1
  have h4 := HO.lst.inj (Option.some.inj h1)
  cases cs with
  | nil => exact h2 rfl
  | cons x r =>
    have h5 := (List.cons.inj h4).1
    cases h5
/-- a new address is neither -/
theorem Pur.fresh {H : Hp} {p c b : Addr} {t : Nat} (h : Pur H p c t) (n : H b = none) : b ≠ p ∧ b ≠ c := by
  constructor
  · intro e
    rw [e, h.1] at n
    cases n
  · intro e
    obtain ⟨_, cs, _, _, h3⟩ := h
    rw [e, h3] at n
    cases n
theorem Off.et {K : PySem.W.Frag} {H H' : Hp} {p c : Addr} {t : Nat} (o : Off H H' p c) (h : Pur H p c t) : ET K H H' := fun a xs q => by
  have no : ∀ u, H a = some u → (∀ ys, u ≠ .lst ys) → H' a = some u := fun u hu hl => o a u (fun e => by rw [e, h.1] at hu; exact hl _ (Option.some.inj hu).symm) (fun e => by
    obtain ⟨_, cs, _, _, h3⟩ := h
    rw [e, h3] at hu
    exact hl _ (Option.some.inj hu).symm) hu
  rcases q with (q | ⟨ob, q⟩) | q
  · exact .inl (.inl (no _ q fun _ z => by cases z))
  · exact .inl (.inr ⟨ob, no _ q fun _ z => by cases z⟩)
  · exact .inr q
section
variable {P : Program} {w : World} {K : PySem.W.Frag} {mg : Str → Option Value} {base : Heap}
def sp_purse (K : PySem.W.Frag) : Sp := fun vs H Q _ => ∃ (a : Addr) (ns : List Int), vs = [.ref a] ∧ SqL K H a (ns.map V.int) ∧ ns.length ≤ 63 ∧ ∀ p c H', Ex H H' → H p = none → H c = none → Pur H' p c 0 → Q (.ref p) H'
theorem ints_shaped (cs : List Int) : SeqAt.shaped (.list (cs.map PyData.int)) = true := by
  have h1 : ∀ l : List Int, PyData.canLayAll0 (l.map PyData.int) = true := by
    intro l
    induction l with
    | nil => rfl
    | cons x r ih => show (PyData.canLay0 (.int x) && PyData.canLayAll0 (r.map PyData.int)) = true; rw [ih]; rfl
  have h2 : ∀ l : List Int, PyData.depthAll (l.map PyData.int) = 0 := by
    intro l
    induction l with
    | nil => rfl
    | cons x r ih => show max (PyData.depth (.int x)) (PyData.depthAll (r.map PyData.int)) = 0; rw [ih]; rfl
  show (PyData.canLayAll0 (cs.map PyData.int) && decide (PyData.depthAll (cs.map PyData.int) + 1 ≤ 64)) = true
  rw [h1, h2]
  rfl
theorem dp_ints {H : Hp} {a : Addr} {cs : List Int} (h : SqL K H a (cs.map V.int)) : Dp K H (.ref a) (.list (cs.map PyData.int)) := by
  refine .lst h ?_
  have : ∀ l : List Int, DpAll K H (l.map V.int) (l.map PyData.int) := by
    intro l
    induction l with
    | nil => exact .nil
    | cons x r ih => exact .cons (.int x) ih
  exact this cs
theorem c_purse (T : Txt mg) (D : Df K mg "_law_purse" s_purse ["_law_script"]) : Cl P w K mg base 1 "_law_purse" (sp_purse K) := by
  refine cl_of (k := 0) D sc_purse (fun vs H Q E h => ?_) (fun f cdv A outer s H vs Q E hr h => ?_)
  · obtain ⟨a, ns, rfl, _⟩ := h
    rfl
  · obtain ⟨a, ns, rfl, hS, len, q⟩ := h
    refine ⟨_, (pss_cons (ps_set (i := 1) sc_purse.nd rfl (.inl rfl) (pe_slice sl_list (pv 0) po_none (po_some pe_int)))
      (pss_cons (ps_for PassesOwn.never (by rfl) (pi_range1 (by rfl) T.z_range (pa_cons (pe_callB call_len_seq (by rfl) T.z_len PySem.boot_len (pa_cons (pv 1) pa_nil)) pa_nil)) (pg_name (i := 2) sc_purse.nd rfl (.inl rfl))
        (pss_one (ps_if (pt_cmpR op_ge (pe_callB call_abs (by rfl) T.z_abs (by decide +kernel) (pa_cons (pe_ix ix_list (pv 1) (pv 2) (fun _ _ => rfl)) pa_nil)) (pe_op op_pow pe_int pe_int) (nomark _))
          (pss_one (ps_asg (pe_op op_mod (pe_ix ix_list (pv 1) (pv 2) (fun _ _ => rfl)) (pe_op pow1200 (pe_op op_pow pe_int pe_int) pe_int)) (pg_sub (pv 1) (pv 2) set_list)))
          pss_nil)))
      (pss_cons (ps_if (pt_cmpR (op_eqD hr.units) (pv 1) (pe_lst pa_nil) (nomark _))
        (pss_one (ps_set (i := 1) sc_purse.nd rfl (.inl rfl) (pe_lst (pa_cons pe_int pa_nil))))
        pss_nil)
      (pss_one (ps_ret (pe_lst (pa_cons (pv 1) (pa_cons pe_int pa_nil)))))))), ?_⟩
    have cut : cutV (ns.map V.int) none (some 63) = ns.map V.int := by
      unfold cutV
      rw [HT.sIx_none, show HT.sIx (ns.map V.int).length (ns.map V.int).length (some 63) = min 63 (ns.map V.int).length from HT.sIx_nat _ _ 63, Nat.sub_zero, List.drop_zero, List.length_map]
      exact List.take_of_length_le (by rw [List.length_map]; omega)
    have sl : EvL (tSl (rSlL K) (tVar 0) tNoPart (tPart (tC (.int 63)))) [some (.ref a), none, none] H (ns.map V.int) := by
      have := el_sl (σ := [some (.ref a), none, none]) (te := tVar 0) (ev_var rfl) eo_none (eo_some (i := 63) (te := tC (.int 63)) ev_c) hS
      rw [cut] at this
      exact this
    refine q_asgL sl fun c H1 nc e1 hc => ?_
    have l63 : ∀ cs : List Int, cs.length = ns.length → (cs.map V.int).length ≤ 63 := fun cs h => by rw [List.length_map, h]; exact len
    have lenE : EvA (tCons (tCB (rLenS K) (tCons (tVar 1) tNil)) tNil) [some (.ref a), some (.ref c), none] H1 [.int (ns.length : Int)] := by
      have := ev_len (K := K) (σ := [some (.ref a), some (.ref c), none]) (ta := tVar 1) (ev_var rfl) (sq_of hc)
      rw [List.length_map] at this
      exact ea_cons this ea_nil
    refine q_forR1 lenE (by omega) (fun i σ H' => Ex H H' ∧ (∃ cs : List Int, cs.length = ns.length ∧ H' c = some (.lst (cs.map V.int))) ∧ ∃ y, σ = [some (.ref a), some (.ref c), y]) (fun H2 e2 => ⟨e1.trans e2, ⟨ns, rfl, e2 _ _ hc⟩, _, rfl⟩) (fun i σ H2 hi ⟨e2, ⟨cs, lc, hcs⟩, y, hσ⟩ => ?_) (fun σ H2 ⟨e2, ⟨cs, lc, hcs⟩, y, hσ⟩ => ?_)
    · subst hσ
      have hi' : i < cs.length := by rw [lc]; omega
      have it : Ev (tOp (rIxL K) (tVar 1) (tVar 2)) [some (.ref a), some (.ref c), some (vi i)] H2 (.int cs[i]) := ev_op (ev_var rfl) (ev_var rfl) (rv_ixL (sq_of hcs) (atI_vi (by rw [List.getElem?_map, List.getElem?_eq_getElem hi']; rfl)))
      refine s_when (et_test (ev_op (ev_cb (z := .int (if cs[i] < 0 then -cs[i] else cs[i])) (ea_cons it ea_nil) (fun H3 _ Q q3 => ⟨_, rfl, q3 H3 (Ex.refl _)⟩)) (ev_op ev_c ev_c (rv_I ⟨by decide, by decide, by decide⟩)) rv_I0)) (fun _ H3 e3 => ?_) (fun _ H3 e3 => ⟨e2.trans e3, ⟨cs, lc, e3 _ _ hcs⟩, _, rfl⟩)
      refine s_setL (e3 _ _ hcs) (ev_op (it.mono e3) (ev_op (ev_op ev_c ev_c (rv_I ⟨by decide, by decide, by decide⟩)) ev_c (fun H4 _ Q q4 => ⟨rfl, rfl, q4 H4 (Ex.refl _)⟩)) (rv_I (by decide))) (ev_var rfl) (ev_var rfl) (by rw [List.length_map]; exact hi') (fun H4 e4 => ⟨((e2.trans e3).trans e4).mut nc, ⟨cs.set i (cs[i] % (10 ^ 60) ^ (20 : Int).toNat), by rw [List.length_set, lc], ?_⟩, _, rfl⟩)
      rw [upd_same, List.map_set]
    · subst hσ
      have dp := dp_ints (K := K) (sq_of hcs)
      have test : EvT (tTest (tOp (rEqD K) (tVar 1) (tLst tNil))) [some (.ref a), some (.ref c), y] H2 (PyData.eqv (.list (cs.map PyData.int)) (.list [])) := fun H3 e3 Q q3 => ⟨_, rfl, Nat.zero_le _, fun r nr => ⟨_, _, dp_ints (sq_of (by rw [upd_ne (ne_of_none (e3 _ _ hcs) nr)]; exact e3 _ _ hcs)), .lst (sq_of upd_same) .nil, ints_shaped cs, rfl, _, rfl, q3 _ (Ex.new nr)⟩⟩
      refine q_when test (fun hb H3 e3 => ?_) (fun hb H3 e3 => ?_)
      · refine s_asgL (el_lst (ea_cons ev_c ea_nil) (by decide)) fun d H4 nd e4 hd => ?_
        have e04 : Ex H H4 := (e2.trans e3).trans e4
        have nd0 : H d = none := fresh_back (e2.trans e3) nd
        refine s_retL (el_lst (ea_cons (ev_var rfl) (ea_cons ev_c ea_nil)) (by show 2 ≤ 100000; decide)) fun p H5 np e5 hp => q p d H5 (e04.trans e5) (fresh_back e04 np) nd0 ⟨hp, [0], by simp, by decide, e5 _ _ hd⟩
      · have ne : cs ≠ [] := fun z => by
          subst z
          exact absurd hb (by decide)
        have e03 : Ex H H3 := e2.trans e3
        have l63' : cs.length ≤ 63 := by rw [lc]; exact len
        refine s_retL (el_lst (ea_cons (ev_var rfl) (ea_cons ev_c ea_nil)) (by show 2 ≤ 100000; decide)) fun p H5 np e5 hp => q p c H5 (e03.trans e5) (fresh_back e03 np) nc ⟨hp, cs, ne, l63', e5 _ _ (e3 _ _ hcs)⟩
end
end K22
end
section
namespace K22
open PySem PySem.Spec PyProof.Rows L2 Evl RZ Dw M20
section
variable {P : Program} {w : World} {K : PySem.W.Frag} {mg : Str → Option Value} {base : Heap}
/-- a draw: a number below n, one more done -/
def sp_draw : Sp := fun vs H Q _ => ∃ (p c : Addr) (t n : Nat), vs = [.ref p, vi n] ∧ Pur H p c t ∧ t ≤ 100000 ∧ 1 ≤ n ∧ n ≤ 1000 ∧ ∀ k H', k < n → Off H H' p c → Pur H' p c (t + 1) → Q (vi k) H'
theorem vi_mod {x : Int} {n : Nat} (h : 1 ≤ n) : ∃ k, k < n ∧ V.int (x % (n : Int)) = vi k := by
  have h1 : 0 ≤ x % (n : Int) := Int.emod_nonneg _ (by omega)
  have h2 : x % (n : Int) < n := Int.emod_lt_of_pos _ (by omega)
  exact ⟨(x % (n : Int)).toNat, by omega, by show V.int _ = V.int _; rw [Int.toNat_of_nonneg h1]⟩
theorem c_draw (T : Txt mg) (D : Df K mg "_law_draw" s_draw ["_law_purse_here", "_law_out_of"]) : Cl P w K mg base 1 "_law_draw" sp_draw := by
  refine cl_of (k := 0) D sc_draw (fun vs H Q E h => ?_) (fun f cdv A outer s H vs Q E hr h => ?_)
  · obtain ⟨p, c, t, n, rfl, _⟩ := h
    rfl
  · obtain ⟨p, c, t, n, rfl, pu, t1, n1, n2, q⟩ := h
    refine ⟨_, (pss_cons (ps_asg (pv 0) (pg_unl (by rfl) (pgs_cons (pg_name (i := 2) sc_draw.nd rfl (.inl rfl)) (pgs_cons (pg_name (i := 3) sc_draw.nd rfl (.inl rfl)) pgs_nil))))
      (pss_cons (ps_set (i := 4) sc_draw.nd rfl (.inl rfl) (pe_op op_mod (pv 3) (pe_callB call_len_seq (by rfl) T.z_len PySem.boot_len (pa_cons (pv 2) pa_nil))))
      (pss_cons (ps_set (i := 5) sc_draw.nd rfl (.inl rfl) (pe_ix ix_list (pv 2) (pv 4) (fun _ _ => rfl)))
      (pss_cons (ps_asg (pe_op op_add (pv 3) pe_int) (pg_sub (pv 0) pe_int set_list))
      (pss_cons (ps_if (pt_cmpR op_ge (pv 5) (pe_op op_pow pe_int pe_int) (nomark _))
        (pss_cons (ps_asg (pe_op op_fdiv (pv 5) (pv 1)) (pg_sub (pv 2) (pv 4) set_list))
        (pss_one (ps_ret (pe_op op_mod (pv 5) (pv 1)))))
        pss_nil)
      (pss_cons (ps_set (i := 6) sc_draw.nd rfl (.inl rfl) (pe_op op_mod (pe_op op_add (pe_op op_add (pe_op op_mul (pe_op op_mod (pv 5) pe_int) pe_int) (pe_op op_mul (pe_op op_mul (pv 3) (pv 3)) pe_int)) pe_int) pe_int))
      (pss_cons (ps_set (i := 6) sc_draw.nd rfl (.inl rfl) (pe_op op_mod (pe_op op_mul (pv 6) (pv 6)) pe_int))
      (pss_cons (ps_set (i := 6) sc_draw.nd rfl (.inl rfl) (pe_op op_mod (pe_op op_mul (pv 6) (pv 6)) pe_int))
      (pss_cons (ps_if (pt_cmpR op_gt (pv 1) (pe_op op_pow pe_int pe_int) (nomark _))
        (pss_cons (ps_set (i := 7) sc_draw.nd rfl (.inl rfl) (pe_op op_mod (pe_op op_add (pe_op op_add (pe_op op_mul (pv 6) pe_int) (pe_op op_mul (pv 3) pe_int)) pe_int) pe_int))
        (pss_one (ps_set (i := 6) sc_draw.nd rfl (.inl rfl) (pe_op op_mul (pv 6) (pe_op op_add (pe_op op_mul (pe_op op_mul (pv 7) (pv 7)) (pv 7)) pe_int)))))
        pss_nil)
      (pss_one (ps_ret (pe_op op_mod (pv 6) (pv 1))))))))))))), ?_⟩
    have ne := pu.ne
    obtain ⟨hp, cs, cne, c63, hc⟩ := id pu
    -- cells, turn = purse
    refine ⟨.ref p, rfl, p, _, rfl, sq_of hp, rfl, _, _, rfl, _, _, rfl, rfl, ?_⟩
    have cl : 0 < cs.length := List.length_pos_iff.mpr cne
    have lenE : Ev (tCB (rLenS K) (tCons (tVar 2) tNil)) [some (.ref p), some (vi n), some (.ref c), some (vi t), none, none, none, none] H (.int (cs.length : Int)) := by
      have := ev_len (K := K) (σ := [some (.ref p), some (vi n), some (.ref c), some (vi t), none, none, none, none]) (ta := tVar 2) (ev_var rfl) (sq_of hc)
      rw [List.length_map] at this
      exact this
    refine q_asg (v := vi (t % cs.length)) (ev_is (ev_op (ev_var rfl) lenE (rv_I (by show (0 : Int) < (cs.length : Int); omega))) (by show V.int ((t : Int) % (cs.length : Int)) = V.int ((t % cs.length : Nat) : Int); rw [Int.natCast_emod])) fun H1 e1 => ?_
    have ai : t % cs.length < cs.length := Nat.mod_lt _ cl
    refine q_asg (v := .int cs[t % cs.length]) (ev_op (ev_var rfl) (ev_var rfl) (rv_ixL (ex_l e1 (sq_of hc)) (atI_vi (by rw [List.getElem?_map, List.getElem?_eq_getElem ai]; rfl)))) fun H2 e2 => ?_
    have e02 := e1.trans e2
    -- purse[1] = turn + 1
    refine q_setL (j := 1) (e02 _ _ hp) (ev_op (ev_var rfl) ev_c rv_I0) (ev_var rfl) ev_c (by show 1 < 2; decide) fun H3 e3 => ?_
    have e03 := e02.trans e3
    have hp4 : (upd H3 p (.lst [.ref c, vi (t + 1)])) p = some (.lst [.ref c, vi (t + 1)]) := upd_same
    have hc4 : (upd H3 p (.lst [.ref c, vi (t + 1)])) c = some (.lst (cs.map V.int)) := by rw [upd_ne (Ne.symm ne)]; exact e03 _ _ hc
    have off4 : Off H (upd H3 p (.lst [.ref c, vi (t + 1)])) p c := fun b o b1 b2 hb => by rw [upd_ne b1]; exact e03 _ _ hb
    have st : (upd H3 p (.lst (List.set [V.ref c, vi t] 1 (V.int ((t : Int) + 1))))) = upd H3 p (.lst [.ref c, vi (t + 1)]) := by
      show upd H3 p (.lst [.ref c, .int ((t : Int) + 1)]) = upd H3 p (.lst [.ref c, .int ((t + 1 : Nat) : Int)])
      rw [Int.natCast_add]
      rfl
    rw [st]
    generalize upd H3 p (.lst [.ref c, vi (t + 1)]) = H4 at hp4 hc4 off4
    have pu4 : Pur H4 p c (t + 1) := ⟨hp4, cs, cne, c63, hc4⟩
    refine q_when (et_test (ev_op (ev_var rfl) (ev_op ev_c ev_c (rv_I ⟨by decide, by decide, by decide⟩)) rv_I0)) (fun _ H5 e5 => ?_) (fun _ H5 e5 => ?_)
    · refine q_setL (e5 _ _ hc4) (ev_op (ev_var rfl) (ev_var rfl) (rv_I ⟨by omega, by omega⟩)) (ev_var rfl) (ev_var rfl) (by rw [List.length_map]; exact ai) fun H6 e6 => ?_
      obtain ⟨k, hk, ek⟩ := vi_mod (x := cs[t % cs.length]) n1
      refine s_ret (v := vi k) (ev_is (ev_op (ev_var rfl) (ev_var rfl) (rv_I (by show (0 : Int) < (n : Int); omega))) ek) fun H7 e7 => q k H7 hk (fun b o b1 b2 hb => e7 _ _ (by rw [upd_ne b2]; exact e6 _ _ (e5 _ _ (off4 b o b1 b2 hb)))) ⟨e7 _ _ (by rw [upd_ne ne]; exact e6 _ _ (e5 _ _ hp4)), cs.set (t % cs.length) (cs[t % cs.length] / (n : Int)), ?_, ?_, ?_⟩
      · intro z
        have := congrArg List.length z
        rw [List.length_set] at this
        have z0 : cs.length = 0 := this
        omega
      · rw [List.length_set]; exact c63
      · refine e7 _ _ ?_
        rw [upd_same, List.map_set]
    · refine q_asg (ev_op (ev_op (ev_op (ev_op (ev_op (ev_var rfl) ev_c (rv_I (by decide))) ev_c (rv_I (.inr ⟨by decide, by decide⟩))) (ev_op (ev_op (ev_var rfl) (ev_var rfl) (rv_I (.inl ⟨by omega, by omega⟩))) ev_c (rv_I (.inr ⟨by decide, by decide⟩))) rv_I0) ev_c rv_I0) ev_c (rv_I (by decide))) fun H6 e6 => ?_
      have small : ∀ x m : Int, 0 < m → m < 2 ^ 40 → CMul (x % m) (x % m) := fun x m h1 h2 => .inl ⟨by have := Int.emod_nonneg x (show m ≠ 0 by omega); omega, by have := Int.emod_lt_of_pos x h1; omega⟩
      refine q_asg (ev_op (ev_op (ev_var rfl) (ev_var rfl) (rv_I (small _ _ (by decide) (by decide)))) ev_c (rv_I (by decide))) fun H7 e7 => ?_
      refine q_asg (ev_op (ev_op (ev_var rfl) (ev_var rfl) (rv_I (small _ _ (by decide) (by decide)))) ev_c (rv_I (by decide))) fun H8 e8 => ?_
      refine q_when (b := false) (et_is (et_test (ev_op (ev_var rfl) (ev_op ev_c ev_c (rv_I ⟨by decide, by decide, by decide⟩)) rv_I0)) ?_) (fun hb => by cases hb) (fun _ H9 e9 => ?_)
      · show decide ((10 : Int) ^ (9 : Int).toNat < (n : Int)) = false
        refine decide_eq_false ?_
        have : (10 : Int) ^ (9 : Int).toNat = 1000000000 := by decide
        rw [this]
        omega
      · have e49 := (((e5.trans e6).trans e7).trans e8).trans e9
        have fin : ∀ x : Int, tRet (tOp (rI (fun _ j => 0 < j) fun i j => .int (i % j)) (tVar 6) (tVar 1)) { nx := fun _ H' => Q .non H', rt := Q } [some (.ref p), some (vi n), some (.ref c), some (vi t), some (vi (t % cs.length)), some (.int cs[t % cs.length]), some (.int x), none] H9 := fun x => by
          obtain ⟨k, hk, ek⟩ := vi_mod (x := x) n1
          exact s_ret (v := vi k) (ev_is (ev_op (ev_var rfl) (ev_var rfl) (rv_I (by show (0 : Int) < (n : Int); omega))) ek) fun Ha ea => q k Ha hk (fun b o b1 b2 hb => (e49.trans ea) _ _ (off4 b o b1 b2 hb)) (pu4.ex (e49.trans ea))
        exact fin _
/-- _law_draw(purse, e), e worth n -/
theorem do_draw {σ : L2.St} {H : Hp} {ta tb : TE} {p c : Addr} {t n : Nat} {E : XK} {Q : VK} (hp : Ev ta σ H (.ref p)) (hn : Ev tb σ H (vi n)) (pu : Pur H p c t) (t1 : t ≤ 100000) (n1 : 1 ≤ n) (n2 : n ≤ 1000) (q : ∀ k H', k < n → Off H H' p c → Pur H' p c (t + 1) → Q (vi k) H') :
    tCall sp_draw [] E (tCons ta (tCons tb tNil)) σ H Q :=
  ea_cons hp (ea_cons hn ea_nil) H (Ex.refl H) _ fun H1 e1 => ⟨p, c, t, n, rfl, pu.ex e1, t1, n1, n2, fun k H' hk o p' => q k H' hk ((Off.of_ex e1).trans o) p'⟩
end
end K22
end
section
namespace K22
open PySem PySem.Spec PyProof.Rows L2 Evl RZ Dw M20
theorem Off.sql {K : PySem.W.Frag} {H H' : Hp} {p c l : Addr} {xs : List V} (o : Off H H' p c) (h1 : l ≠ p) (h2 : l ≠ c) (h : SqL K H l xs) : SqL K H' l xs := by
  rcases h with (h | ⟨ob, h⟩) | h
  · exact .inl (.inl (o _ _ h1 h2 h))
  · exact .inl (.inr ⟨ob, o _ _ h1 h2 h⟩)
  · exact .inr h
theorem Off.upd {H H' : Hp} {p c l : Addr} {o : HO} (f : Off H H' p c) (n : H l = none) : Off H (upd H' l o) p c := fun b u b1 b2 h => by
  rw [upd_ne (ne_of_none h n)]
  exact f b u b1 b2 h
theorem Off.back {H H' : Hp} {p c l : Addr} (f : Off H H' p c) (h1 : l ≠ p) (h2 : l ≠ c) (n : H' l = none) : H l = none := by
  cases e : H l with
  | none => rfl
  | some o =>
    rw [f l o h1 h2 e] at n
    cases n
theorem Pur.upd {H : Hp} {p c l : Addr} {t : Nat} {o : HO} (h : Pur H p c t) (h1 : l ≠ p) (h2 : l ≠ c) : Pur (upd H l o) p c t := ⟨by rw [upd_ne (Ne.symm h1)]; exact h.1, let ⟨cs, a, b, d⟩ := h.2; ⟨cs, a, b, by rw [upd_ne (Ne.symm h2)]; exact d⟩⟩
section
variable {P : Program} {w : World} {K : PySem.W.Frag} {mg : Str → Option Value} {base : Heap}
section
variable {σ : L2.St} {H : Hp} {D : Ends} {tu tz : TS}
/-- for x in range(e), e by what holds of it -/
theorem q_forRX {ta : TA} {j : Nat} (C : Nat → Hp → Prop) (h : ∀ Q : List V → Hp → Prop, (∀ n H1, C n H1 → Q [vi n] H1) → ta σ H Q) (hn : ∀ n H1, C n H1 → n ≤ 100000) (Pv : Nat → Nat → L2.St → Hp → Prop) (h0 : ∀ n H1, C n H1 → Pv n 0 σ H1)
    (hs : ∀ n i σ' H', i < n → Pv n i σ' H' → tu { D with nx := Pv n (i + 1), ct := Pv n (i + 1), bk := tz D } (σ'.set j (some (vi i))) H') (hd : ∀ n σ' H', Pv n n σ' H' → tz D σ' H') : tSeq (tFor (iRng1 ta) (gName j) tu) tz D σ H :=
  h _ fun n H1 c => ⟨(n : Int), rfl, by have := hn n H1 c; omega, by have := hn n H1 c; omega, for_range (D := { D with nx := tz D }) (lo := 0) (n := ((n : Nat) : Int).toNat) (Pv n) (h0 n H1 c) (fun i σ' H' hi p => by
    have e0 : (0 : Int) + (i : Int) = (i : Int) := Int.zero_add _
    show tu { D with nx := Pv n (i + 1), ct := Pv n (i + 1), bk := tz D } (σ'.set j (some (.int ((0 : Int) + (i : Int))))) H'
    rw [e0]
    exact hs n i σ' H' (by rw [Int.toNat_natCast] at hi; exact hi) p) (fun σ' H' p => hd n σ' H' (by rw [Int.toNat_natCast] at p; exact p))⟩
end
/-! ### a list mixed -/
def sp_mixed (K : PySem.W.Frag) : Sp := fun vs H Q _ => ∃ (p c l : Addr) (t : Nat) (xs : List V), vs = [.ref p, .ref l] ∧ Pur H p c t ∧ t ≤ 90000 ∧ SqL K H l xs ∧ l ≠ p ∧ l ≠ c ∧ xs.length ≤ 100 ∧
  ∀ m ys H', ys.Perm xs → H m = none → Off H H' p c → Pur H' p c (t + xs.length) → H' m = some (.lst ys) → Q (.ref m) H'
theorem c_mixed (T : Txt mg) (D : Df K mg "_law_mixed" s_mixed ["_law_purse_here", "_law_things"]) (c_draw : Cl P w K mg base 1 "_law_draw" sp_draw) : Cl P w K mg base 2 "_law_mixed" (sp_mixed K) := by
  refine cl_of (k := 1) D sc_mixed (fun vs H Q E h => ?_) (fun f cdv A outer s H vs Q E hr h => ?_)
  · obtain ⟨p, c, l, t, xs, rfl, _⟩ := h
    rfl
  · obtain ⟨p, c, l, t, xs, rfl, pu, t1, hl, lp, lc, x100, q⟩ := h
    refine ⟨_, (pss_cons (ps_set (i := 2) sc_mixed.nd rfl (.inl rfl) (pe_lst pa_nil))
      (pss_cons (ps_for PassesOwn.never (by rfl) (pi_list (pv 1)) (pg_name (i := 3) sc_mixed.nd rfl (.inl rfl))
        (pss_one (ps_expr (pe_bm PySem.F.plainAttrs_list PySem.F.slot_list_insert PySem.F.type_list_insert mt_insert (pv 2) (pa_cons (pe_cl c_draw hr (by first | decide | omega) (by rfl) (pa_cons (pv 0) (pa_cons (pe_op op_add (pe_callB call_len_seq (by rfl) T.z_len PySem.boot_len (pa_cons (pv 2) pa_nil)) pe_int) pa_nil))) (pa_cons (pv 3) pa_nil))))))
      (pss_one (ps_ret (pv 2))))), ?_⟩
    refine q_asgL (el_lst ea_nil (Nat.zero_le _)) fun m H1 nm e1 hm => ?_
    obtain ⟨mp, mc⟩ := pu.fresh nm
    refine q_forLn (ev_var rfl) (ex_l e1 hl) (fun i σ H' => Off H H' p c ∧ Pur H' p c (t + i) ∧ (∃ ys, H' m = some (.lst ys) ∧ ys.Perm (xs.take i)) ∧ ∃ y, σ = [some (.ref p), some (.ref l), some (.ref m), y]) (fun H2 e2 => ⟨.of_ex (e1.trans e2), pu.ex (e1.trans e2), ⟨[], e2 _ _ hm, .nil⟩, none, rfl⟩) (fun i σ H' _ ⟨o, _⟩ => o.sql lp lc hl) (fun i x σ H2 hx ⟨o2, pu2, ⟨ys, hys, perm⟩, y, hσ⟩ => ?_) (fun σ H2 ⟨o2, pu2, ⟨ys, hys, perm⟩, y, hσ⟩ => ?_)
    · subst hσ
      have hi : i < xs.length := (List.getElem?_eq_some_iff.mp hx).1
      have ly : ys.length = i := by rw [perm.length_eq, List.length_take]; omega
      have lenE : Ev (tOp (rI0 fun i j => .int (i + j)) (tCB (rLenS K) (tCons (tVar 2) tNil)) (tC (.int 1))) [some (.ref p), some (.ref l), some (.ref m), some x] H2 (vi (i + 1)) := by
        have := ev_op (r := rI0 fun i j => .int (i + j)) (ev_len (K := K) (σ := [some (.ref p), some (.ref l), some (.ref m), some x]) (ta := tVar 2) (ev_var rfl) (sq_of hys)) (ev_c (v := .int 1)) rv_I0
        rw [ly] at this
        exact this
      refine ⟨.ref m, rfl, Or.inl ⟨rfl, _, sq_of hys⟩, ?_⟩
      refine do_draw (ev_var rfl) lenE pu2 (by omega) (by omega) (by omega) fun k H3 hk o3 pu3 => ?_
      have hm3 : H3 m = some (.lst ys) := o3 _ _ mp mc hys
      refine ⟨x, rfl, m, ys, (k : Int), x, rfl, rfl, hm3, sz_lt (by omega), by omega, by omega, ?_⟩
      refine ⟨(o2.trans o3).upd nm, (pu3.upd mp mc), ⟨_, upd_same, ?_⟩, _, rfl⟩
      rw [Int.toNat_natCast, List.take_add_one, hx]
      have h1 : (ys.take k ++ [x] ++ ys.drop k).Perm (x :: (ys.take k ++ ys.drop k)) := by
        rw [List.append_assoc]
        exact List.perm_middle
      rw [List.take_append_drop] at h1
      refine h1.trans ((List.Perm.cons x perm).trans ?_)
      exact List.perm_append_singleton x (xs.take i) |>.symm
    · subst hσ
      rw [List.take_length] at perm
      exact s_ret (ev_var rfl) fun H3 e3 => q m ys H3 perm nm (o2.trans (.of_ex e3)) (pu2.ex e3) (e3 _ _ hys)
/-- a call of _law_mixed -/
theorem do_mixed {σ : L2.St} {H : Hp} {ta tb : TE} {p c l : Addr} {t : Nat} {xs : List V} {E : XK} {Q : VK} (hp : Ev ta σ H (.ref p)) (hb : EvL tb σ H xs) (pu : Pur H p c t) (t1 : t ≤ 90000) (x100 : xs.length ≤ 100)
    (q : ∀ m ys H', ys.Perm xs → H m = none → Off H H' p c → Pur H' p c (t + xs.length) → H' m = some (.lst ys) → Q (.ref m) H') : tCall (sp_mixed K) [] E (tCons ta (tCons tb tNil)) σ H Q :=
  hp H (Ex.refl H) _ fun H1 e1 => hb H1 e1 _ fun l H2 nl e2 hl => ⟨p, c, l, t, xs, rfl, pu.ex (e1.trans e2), t1, sq_of hl, ((pu.ex e1).fresh nl).1, ((pu.ex e1).fresh nl).2, x100, fun m ys H3 perm nm o p3 hm => q m ys H3 perm (fresh_back (e1.trans e2) nm) ((Off.of_ex (e1.trans e2)).trans o) p3 hm⟩
/-! ### an order drawn -/
/-- a tuple of natural numbers, told with its own object -/
theorem FNats.off {H H' : Hp} {v : V} {ns : List Nat} {p c : Addr} {t : Nat} (pu : Pur H p c t) (o : Off H H' p c) (h : FNats H v ns) : FNats H' v ns := by
  obtain ⟨a, ob, q, s, d⟩ := h
  refine ⟨a, ob, q, o _ _ (fun e => ?_) (fun e => ?_) s, d⟩
  · rw [e, pu.1] at s
    cases s
  · obtain ⟨_, cs, _, _, h3⟩ := pu
    rw [e, h3] at s
    cases s
def sp_order : Sp := fun vs H Q _ => ∃ (p c : Addr) (t n : Nat), vs = [.ref p, vi n] ∧ Pur H p c t ∧ t ≤ 90000 ∧ n ≤ 6 ∧ ∀ v o H', Off H H' p c → Pur H' p c (t + n) → FNats H' v o → Ord n o → Q v H'
theorem rg0 (n : Nat) : rgV 0 (n : Int) = (List.range n).map vi := by
  unfold rgV
  rw [Int.sub_zero, Int.toNat_natCast]
  apply List.map_congr_left
  intro k _
  show V.int (0 + (k : Int)) = V.int (k : Int)
  rw [Int.zero_add]
theorem el_lrg {σ : L2.St} {H : Hp} {te : TE} {n : Nat} (h : Ev te σ H (vi n)) (hn : n ≤ 1000) : EvL (tLstRg (tRg1 te)) σ H ((List.range n).map vi) := fun H1 e Q q =>
  h H1 e _ fun H2 e2 => ⟨(n : Int), rfl, ⟨by omega, by omega, by omega, by omega, by omega⟩, fun r nr => by
    rw [rg0]
    exact q r _ (fresh_back e2 nr) (e2.trans (Ex.new nr)) upd_same⟩
def unint : V → Nat
  | .int i => i.toNat
  | _ => 0
theorem perm_nats {ys : List V} {n : Nat} (h : ys.Perm ((List.range n).map vi)) : ∃ o, ys = o.map vi ∧ Ord n o := by
  have e1 : ((List.range n).map vi).map unint = List.range n := by
    rw [List.map_map]
    have : (unint ∘ vi) = id := funext fun k => Int.toNat_natCast k
    rw [this, List.map_id]
  have p := h.map unint
  rw [e1] at p
  refine ⟨ys.map unint, ?_, ?_⟩
  · rw [List.map_map]
    have : ys.map (vi ∘ unint) = ys.map id := List.map_congr_left fun v hv => by
      obtain ⟨k, _, rfl⟩ := List.mem_map.mp (h.mem_iff.mp hv)
      show vi (unint (vi k)) = vi k
      show V.int (((k : Int).toNat : Nat) : Int) = V.int (k : Int)
      rw [Int.toNat_natCast]
    rw [this, List.map_id]
  · have nd : (ys.map unint).Nodup := p.nodup_iff.mpr List.nodup_range
    have len : (ys.map unint).length = n := by rw [p.length_eq, List.length_range]
    refine ⟨len, fun k hk => ?_, fun j k hj hk e => ?_⟩
    · have : g (ys.map unint) k ∈ ys.map unint := List.mem_iff_getElem?.mpr ⟨k, g_eq (by rw [len]; exact hk)⟩
      exact List.mem_range.mp (p.mem_iff.mp this)
    · have h1 := g_eq (l := ys.map unint) (k := j) (by rw [len]; exact hj)
      have h2 := g_eq (l := ys.map unint) (k := k) (by rw [len]; exact hk)
      rw [List.getElem?_eq_getElem (by rw [len]; exact hj)] at h1
      rw [List.getElem?_eq_getElem (by rw [len]; exact hk)] at h2
      exact (List.getElem_inj nd).mp ((Option.some.inj h1).trans (e.trans (Option.some.inj h2).symm))
theorem c_order (T : Txt mg) (D : Df K mg "_law_order" s_ordr ["_law_purse_here", "_law_size"]) (c_mixed : Cl P w K mg base 2 "_law_mixed" (sp_mixed K)) : Cl P w K mg base 3 "_law_order" sp_order := by
  refine cl_of (k := 2) D sc_ordr (fun vs H Q E h => ?_) (fun f cdv A outer s H vs Q E hr h => ?_)
  · obtain ⟨p, c, t, n, rfl, _⟩ := h
    rfl
  · obtain ⟨p, c, t, n, rfl, pu, t1, n6, q⟩ := h
    refine ⟨_, (pss_one (ps_ret (pe_callTy call_tupF (by rfl) T.z_tuple (by decide +kernel) (pa_cons (pe_cl c_mixed hr (by decide) (by rfl) (pa_cons (pv 0) (pa_cons (pe_listRg rfl (by rfl) T.z_list (prg_1 (by rfl) T.z_range (pv 1))) pa_nil))) pa_nil)))), ?_⟩
    refine do_mixed (l := p) (ev_var rfl) (el_lrg (ev_var rfl) (by omega)) pu t1 (by simp; omega) fun m ys H1 perm nm o1 pu1 hm => ?_
    rw [List.length_map, List.length_range] at pu1
    obtain ⟨o, rfl, ord⟩ := perm_nats perm
    refine ⟨m, _, rfl, sq_of hm, fun r ob nr dn => q _ o _ (o1.trans (.of_ex (Ex.new nr))) (pu1.ex (Ex.new nr)) ⟨r, ob, rfl, upd_same, dn⟩ ord⟩
/-! ### a signature drawn -/
def okN : List Str := ["m", "e", "co", "sq", "a", "back"]
theorem okN_nd : okN.Nodup := by decide +kernel
theorem okN_name : ∀ z ∈ okN, Name z := by
  have h : ∀ z ∈ okN, 1 ≤ z.length ∧ z.length ≤ 4 ∧ ∀ c ∈ z.cps.toList, c ∈ letters.cps.toList := by decide +kernel
  exact fun z hz => ⟨(h z hz).1, (h z hz).2.1, (h z hz).2.2⟩
def unstr : V → Str
  | .str z => z
  | _ => ""
theorem perm_strs {ys : List V} {zs : List Str} (h : ys.Perm (zs.map V.str)) : ∃ us : List Str, ys = us.map V.str ∧ us.Perm zs := by
  have e1 : (zs.map V.str).map unstr = zs := by
    rw [List.map_map]
    have : (unstr ∘ V.str) = id := rfl
    rw [this, List.map_id]
  have p := h.map unstr
  rw [e1] at p
  refine ⟨ys.map unstr, ?_, p⟩
  rw [List.map_map]
  have : ys.map (V.str ∘ unstr) = ys.map id := List.map_congr_left fun v hv => by
    obtain ⟨k, _, rfl⟩ := List.mem_map.mp (h.mem_iff.mp hv)
    rfl
  rw [this, List.map_id]
def sp_signature (K : PySem.W.Frag) : Sp := fun vs H Q _ => ∃ (p c : Addr) (t : Nat), vs = [.ref p, vi 4] ∧ Pur H p c t ∧ t ≤ 80000 ∧ ∀ v sg t' H', Off H H' p c → Pur H' p c t' → t' ≤ t + 20 → Sig K H' v sg → SigOk sg → Q v H'
def pls : List Nat := [0, 1, 2, 2]
theorem c_signature (T : Txt mg) (D : Df K mg "_law_signature" s_sgn ["_law_purse_here", "_law_most"]) (c_draw : Cl P w K mg base 1 "_law_draw" sp_draw) (c_mixed : Cl P w K mg base 2 "_law_mixed" (sp_mixed K)) : Cl P w K mg base 3 "_law_signature" (sp_signature K) := by
  refine cl_of (k := 2) D sc_sgn (fun vs H Q E h => ?_) (fun f cdv A outer s H vs Q E hr h => ?_)
  · obtain ⟨p, c, t, rfl, _⟩ := h
    rfl
  · obtain ⟨p, c, t, rfl, pu, t1, q⟩ := h
    refine ⟨_, (pss_cons (ps_set (i := 2) sc_sgn.nd rfl (.inl rfl) (pe_cl c_mixed hr (by first | decide | omega) (by rfl) (pa_cons (pv 0) (pa_cons (pe_lst (pa_cons pe_str (pa_cons pe_str (pa_cons pe_str (pa_cons pe_str (pa_cons pe_str (pa_cons pe_str pa_nil))))))) pa_nil))))
      (pss_cons (ps_set (i := 3) sc_sgn.nd rfl (.inl rfl) (pe_lst pa_nil))
      (pss_cons (ps_for PassesOwn.never (by rfl) (pi_range1 (by rfl) T.z_range (pa_cons (pe_op op_add pe_int (pe_cl c_draw hr (by first | decide | omega) (by rfl) (pa_cons (pv 0) (pa_cons (pv 1) pa_nil)))) pa_nil)) (pg_name (i := 4) sc_sgn.nd rfl (.inl rfl))
        (pss_one (ps_expr (pe_bm PySem.F.plainAttrs_list PySem.F.slot_list_append PySem.F.type_list_append mt_append (pv 3) (pa_cons (pe_tup (pa_cons (pe_ix ix_list (pv 2) (pv 4) (fun _ _ => rfl)) (pa_cons (pe_ix ix_list (pe_lst (pa_cons pe_int (pa_cons pe_int (pa_cons pe_int (pa_cons pe_int pa_nil))))) (pe_cl c_draw hr (by first | decide | omega) (by rfl) (pa_cons (pv 0) (pa_cons pe_int pa_nil))) (fun _ _ => rfl)) pa_nil))) pa_nil)))))
      (pss_one (ps_ret (pe_callTy call_tuple_of (by rfl) T.z_tuple (by decide +kernel) (pa_cons (pv 3) pa_nil))))))), ?_⟩
    -- the names
    refine do_mixed (l := p) (ev_var rfl) (el_lst (vs := okN.map V.str) (ea_cons ev_c (ea_cons ev_c (ea_cons ev_c (ea_cons ev_c (ea_cons ev_c (ea_cons ev_c ea_nil)))))) (by show 6 ≤ 100000; decide)) pu (by omega) (by show 6 ≤ 100; decide) fun m ys H1 perm nm o1 pu1 hm => ?_
    replace pu1 : Pur H1 p c (t + 6) := pu1
    obtain ⟨zs, rfl, pz⟩ := perm_strs perm
    have lz : zs.length = 6 := pz.length_eq
    have ndz : zs.Nodup := pz.nodup_iff.mpr okN_nd
    obtain ⟨mp, mc⟩ := pu.fresh nm
    show tSeq _ _ _ _ H1
    refine q_asgL (el_lst ea_nil (Nat.zero_le _)) fun l H2 nl e2 hl => ?_
    obtain ⟨lp, lc⟩ := pu1.fresh nl
    have lm : l ≠ m := fun e => by rw [e, hm] at nl; cases nl
    have hm2 := e2 _ _ hm
    have pu2 := pu1.ex e2
    have nlH : H l = none := o1.back lp lc nl
    have o2 : Off H H2 p c := o1.trans (.of_ex e2)
    refine q_forRX (fun n H3 => 1 ≤ n ∧ n ≤ 4 ∧ Off H2 H3 p c ∧ Pur H3 p c (t + 7)) (fun Q h => ?_) (fun n H3 h => by omega)
      (fun n i σ H' => (1 ≤ n ∧ n ≤ 4) ∧ Off H H' p c ∧ Pur H' p c (t + 7 + i) ∧ H' m = some (.lst (zs.map V.str)) ∧ (∃ ws sg, H' l = some (.lst ws) ∧ Paired (Deed K H') ws sg ∧ sg.map (·.1) = zs.take i ∧ ∀ q ∈ sg, q.2 ≤ 2) ∧ ∃ y, σ = [some (.ref p), some (vi 4), some (.ref m), some (.ref l), y])
      (fun n H3 ⟨a, b, o3, pu3⟩ => ⟨⟨a, b⟩, o2.trans o3, pu3, o3 _ _ mp mc hm2, ⟨[], [], o3 _ _ lp lc hl, .nil, rfl, fun _ z => nomatch z⟩, _, rfl⟩) (fun n i σ H3 hi ⟨⟨a, b⟩, o3, pu3, hm3, ⟨ws, sg, hws, pws, nms, pl2⟩, y, hσ⟩ => ?_) (fun n σ H3 ⟨⟨a, b⟩, o3, pu3, hm3, ⟨ws, sg, hws, pws, nms, pl2⟩, y, hσ⟩ => ?_)
    · refine do_draw (ev_var rfl) (ev_var rfl) pu2 (by omega) (by decide) (by decide) fun k H3 hk o3 pu3 => ⟨1, (k : Int), rfl, rfl, ?_⟩
      have e : V.int (1 + (k : Int)) = vi (k + 1) := by
        show V.int (1 + (k : Int)) = V.int ((k + 1 : Nat) : Int)
        rw [Int.natCast_add, Int.add_comm]
        rfl
      show Q [V.int (1 + (k : Int))] H3
      rw [e]
      exact h (k + 1) H3 ⟨by omega, by omega, o3, pu3⟩
    · subst hσ
      have hz : i < zs.length := by omega
      refine ⟨.ref l, rfl, .inl ⟨rfl, _, sq_of hws⟩, ?_⟩
      have nameE : Ev (tOp (rIxL K) (tVar 2) (tVar 4)) [some (.ref p), some (vi 4), some (.ref m), some (.ref l), some (vi i)] H3 (.str zs[i]) := ev_op (ev_var rfl) (ev_var rfl) (rv_ixL (sq_of hm3) (atI_vi (by rw [List.getElem?_map, List.getElem?_eq_getElem hz]; rfl)))
      refine nameE H3 (Ex.refl _) _ fun H4 e4 => ?_
      have plsE : EvL (tLst (tCons (tC (.int 0)) (tCons (tC (.int 1)) (tCons (tC (.int 2)) (tCons (tC (.int 2)) tNil))))) [some (.ref p), some (vi 4), some (.ref m), some (.ref l), some (vi i)] H4 (pls.map vi) := el_lst (ea_cons ev_c (ea_cons ev_c (ea_cons ev_c (ea_cons ev_c ea_nil)))) (by show 4 ≤ 100000; decide)
      refine do_cons (do_op (do_evL plsE fun d H5 nd e5 hd => ?_))
      have e35 := e4.trans e5
      refine do_draw (ev_var rfl) (ev_c (v := vi 4)) (pu3.ex e35) (by omega) (by decide) (by decide) fun k H6 hk o6 pu6 => ?_
      obtain ⟨dp, dc⟩ := (pu3.ex e4).fresh nd
      refine ⟨d, pls.map vi, (k : Int), vi (g pls k), rfl, rfl, sq_of (o6 _ _ dp dc hd), atI_vi (vi_get hk), ?_⟩
      refine ⟨by show 2 ≤ sizeLine; decide, fun r nr => ?_⟩
      have hl6 : H6 l = some (.lst ws) := o6 _ _ lp lc (e35 _ _ hws)
      have hl7 : (upd H6 r (.tup [.str zs[i], vi (g pls k)])) l = some (.lst ws) := by rw [upd_ne (ne_of_none hl6 nr)]; exact hl6
      have lw : ws.length ≤ 4 := by
        have h1 := paired_len pws
        have h2 := congrArg List.length nms
        rw [List.length_map, List.length_take] at h2
        omega
      refine ⟨l, ws, .ref r, rfl, rfl, hl7, sz_lt (by omega), ?_⟩
      have o36 : Off H3 H6 p c := (Off.of_ex e35).trans o6
      have o37 : Off H3 (upd H6 r (.tup [.str zs[i], vi (g pls k)])) p c := o36.trans (.of_ex (Ex.new nr))
      obtain ⟨rp, rc⟩ := pu6.fresh nr
      have et : ET K H3 (upd (upd H6 r (.tup [.str zs[i], vi (g pls k)])) l (.lst (ws ++ [.ref r]))) := ET.upd (o37.et pu3) hl7
      have hm6 : H6 m = some (.lst (zs.map V.str)) := o6 _ _ mp mc (e35 _ _ hm3)
      refine ⟨⟨a, b⟩, (o3.trans o37).upd nlH, (pu6.upd rp rc).upd lp lc, ?_, ⟨ws ++ [.ref r], sg ++ [(zs[i], g pls k)], upd_same, paired_snoc ?_ (paired_imp (fun _ _ z => z.et et) pws), ?_, fun x hx => ?_⟩, _, rfl⟩
      · rw [upd_ne (Ne.symm lm), upd_ne (ne_of_none hm6 nr)]
        exact hm6
      · refine ⟨r, rfl, st_of ?_⟩
        rw [upd_ne (fun e => by rw [e] at nr; rw [nr] at hl6; cases hl6), upd_same]
      · rw [List.map_append, nms, List.take_add_one, List.getElem?_eq_getElem hz]
        rfl
      · rcases List.mem_append.mp hx with z | z
        · exact pl2 x z
        · rw [List.mem_singleton.mp z]
          have : ∀ k, k < 4 → g pls k ≤ 2 := by decide
          exact this k hk
    · subst hσ
      have ls : sg.length = n := by
        have h2 := congrArg List.length nms
        rw [List.length_map, List.length_take] at h2
        omega
      have ok : SigOk sg := ⟨by omega, by omega, fun x hx => okN_name _ (pz.mem_iff.mp (List.mem_of_mem_take (by rw [← nms]; exact List.mem_map.mpr ⟨x, hx, rfl⟩))), pl2, by rw [nms]; exact (List.take_sublist _ _).nodup ndz⟩
      refine eu_tupL (K := K) (ev_var rfl) (sq_of hws) H3 (Ex.refl _) _ fun r H4 nr e4 hr4 => q _ sg (t + 7 + n) H4 (o3.trans (.of_ex e4)) (pu3.ex e4) (by omega) ⟨r, ws, rfl, st_of hr4, paired_imp (fun _ _ z => z.et (Dw.Ex.et e4)) pws⟩ ok
end
end K22
end
section
namespace K22
open PySem PySem.Spec PyProof.Rows L2 Evl RZ Dw M20
/-- a comprehension whose element may do anything, by what holds between its turns -/
theorem do_lcIt {J : It} {n : Nat} {G : Hp → Prop} {Y : Nat → Hp → V → Hp → Prop} {wi : TI} {g : TG} {te : TE} {σ : L2.St} {H : Hp} {vs : List Nat} {Q : VK} (w : Walk J n G Y) (hw0 : ∀ R : It → Hp → Prop, (∀ H1, Ex H H1 → R J H1) → wi σ H R) (Pv : Addr → Nat → Hp → Prop)
    (h0 : ∀ D H1, Ex H H1 → H1 D = none → Pv D 0 (upd H1 D (.lst []))) (hG : ∀ D i H', i ≤ n → Pv D i H' → G H')
    (hs : ∀ D i x H' H'', i < n → Pv D i H' → Y i H' x H'' → g x (wipe σ vs) H'' fun σ2 H2 => wipe σ2 vs = wipe σ vs ∧ if true = true then te σ2 H2 fun y H4 => ∃ acc, H4 D = some (.lst acc) ∧ acc.length < sizeLine ∧ Pv D (i + 1) (upd H4 D (.lst (acc ++ [y]))) else Pv D (i + 1) H2)
    (hd : ∀ D H', Pv D n H' → Q (.ref D) H') : tLc wi g tYes te vs σ H Q :=
  hw0 _ fun H1 e1 Dl nD => lc_it w (Pv Dl) (h0 Dl H1 e1 nD) (hG Dl) (fun i x H2 H3 hi p y => hs Dl i x H2 H3 hi p y) (fun H2 p => hd Dl H2 p)
theorem do_name {i : Nat} {v : V} {σ : L2.St} {H : Hp} {Q : L2.St → Hp → Prop} (h : Q (σ.set i (some v)) H) : gName i v σ H Q := h
theorem do_set {i : Nat} {te : TE} {tz : TS} {D : Ends} {σ : L2.St} {H : Hp} (h : te σ H fun x H1 => tz D (σ.set i (some x)) H1) : tSeq (tAsg te (gName i)) tz D σ H := h
theorem do_sub {to ti : TE} {t : TSet} {v : V} {σ : L2.St} {H : Hp} {Q : L2.St → Hp → Prop} (h : to σ H fun o H1 => ti σ H1 fun i H2 => t o i v H2 fun H3 => Q σ H3) : gSub to ti t v σ H Q := h
/-- something put behind a list -/
theorem do_app {K : PySem.W.Frag} {ta te : TE} {l : Addr} {xs : List V} {D : Ends} {σ : L2.St} {H : Hp} (hl : H l = some (.lst xs)) (ha : Ev ta σ H (.ref l))
    (h : ∀ H1, Ex H H1 → te σ H1 fun v H2 => ∃ a ys y, V.ref l = .ref a ∧ [v] = [y] ∧ H2 a = some (.lst ys) ∧ ys.length < sizeLine ∧ D.nx σ (upd H2 a (.lst (ys ++ [y])))) : tDrop (tBM K "list" rAppend ta (tCons te tNil)) D σ H :=
  ha H (Ex.refl H) _ fun H1 e1 => ⟨Or.inl ⟨rfl, xs, sq_of (e1 l _ hl)⟩, h H1 e1⟩
theorem vi_addmod (a b n : Nat) : V.int ((((a : Nat) : Int) + ((b : Nat) : Int)) % (n : Int)) = vi ((a + b) % n) := by
  rw [← Int.natCast_add, ← Int.natCast_emod]
theorem vi_max (a b : Nat) : V.int (if (b : Int) > (a : Int) then (b : Int) else (a : Int)) = vi (max a b) := by
  by_cases h : a < b
  · rw [if_pos (by omega), Nat.max_eq_right (Nat.le_of_lt h)]
  · rw [if_neg (by omega), Nat.max_eq_left (by omega)]
theorem vi_min (a b : Nat) : V.int (if (b : Int) < (a : Int) then (b : Int) else (a : Int)) = vi (min a b) := by
  by_cases h : b < a
  · rw [if_pos (by omega), Nat.min_eq_right (Nat.le_of_lt h)]
  · rw [if_neg (by omega), Nat.min_eq_left (by omega)]
section
variable {P : Program} {w : World} {K : PySem.W.Frag} {mg : Str → Option Value} {base : Heap}
/-! ### a table drawn -/
def sp_table (K : PySem.W.Frag) : Sp := fun vs H Q _ => ∃ (p c : Addr) (t n pl : Nat), vs = [.ref p, vi n, vi pl] ∧ Pur H p c t ∧ t ≤ 80000 ∧ 1 ≤ n ∧ n ≤ 6 ∧ pl ≤ 2 ∧ ∀ v tb t' H', Off H H' p c → Pur H' p c t' → t' ≤ t + 100 → Nats K H' v tb → Tab n pl tb → Q v H'
theorem tab_of {n pl : Nat} {ks : List Nat} (h1 : ks.length = n ^ pl) (h2 : ∀ k ∈ ks, k < n) : Tab n pl ks := ⟨h1, fun k hk => h2 _ (List.mem_iff_getElem?.mpr ⟨k, g_eq (by rw [h1]; exact hk)⟩)⟩
theorem c_table (T : Txt mg) (D : Df K mg "_law_table" s_tbl ["_law_purse_here", "_law_size", "_law_places"]) (c_draw : Cl P w K mg base 1 "_law_draw" sp_draw) (c_mixed : Cl P w K mg base 2 "_law_mixed" (sp_mixed K)) : Cl P w K mg base 3 "_law_table" (sp_table K) := by
  refine cl_of (k := 2) D sc_tbl (fun vs H Q E h => ?_) (fun f cdv A outer s H vs Q E hr h => ?_)
  · obtain ⟨p, c, t, n, pl, rfl, _⟩ := h
    rfl
  · obtain ⟨p, c, t, n, pl, rfl, pu, t1, n1, n6, p2, q⟩ := h
    refine ⟨_, (pss_cons (ps_set (i := 3) sc_tbl.nd rfl (.inl rfl) (pe_cl c_draw hr (by first | decide | omega) (by rfl) (pa_cons (pv 0) (pa_cons pe_int pa_nil))))
      (pss_cons (ps_if (pt_cmpR op_eq (pv 2) pe_int (nomark _))
        (pss_one (ps_ret (pe_tup (pa_cons (pe_cl c_draw hr (by first | decide | omega) (by rfl) (pa_cons (pv 0) (pa_cons (pv 1) pa_nil))) pa_nil))))
        pss_nil)
      (pss_cons (ps_if (pt_cmpR op_eq (pv 2) pe_int (nomark _))
        (pss_cons (ps_set (i := 4) sc_tbl.nd rfl (.inl rfl) (pe_cl c_mixed hr (by first | decide | omega) (by rfl) (pa_cons (pv 0) (pa_cons (pe_listRg rfl (by rfl) T.z_list (prg_1 (by rfl) T.z_range (pv 1))) pa_nil))))
        (pss_one (ps_ret (pe_ix ix_list (pe_lst (pa_cons (pe_callTy call_tuple_of (by rfl) T.z_tuple (by decide +kernel) (pa_cons (pe_lc (own := [("_law_k", 7)]) (g := (gName 7)) (by rfl) sc_tbl.nd (pi_range1 (by rfl) T.z_range (pa_cons (pv 1) pa_nil)) (blkOk_by (own := [("_law_k", 7)]) (N := ["_law_purse_here", "_law_size", "_law_places", "_law_way_here", "_law_turned_here", "_law_by", "_law_brought", "_law_k", "_law_one", "_law_other", "_law_some_here"]) (sc := (defScope s_tbl)) (by decide +kernel)) (fun _ _ _ _ _ => (pg_name (i := 7) sc_tbl.nd rfl (.inl rfl))) (fun _ _ _ _ _ => pts_nil) (fun _ _ _ _ _ => (pe_cl c_draw hr (by first | decide | omega) (by rfl) (pa_cons (pv 0) (pa_cons (pv 1) pa_nil))))) pa_nil)) (pa_cons (pe_callTy call_tuple_of (by rfl) T.z_tuple (by decide +kernel) (pa_cons (pv 4) pa_nil)) pa_nil))) (pe_op op_mod (pv 3) pe_int) (fun _ _ => rfl)))))
        pss_nil)
      (pss_cons (ps_set (i := 5) sc_tbl.nd rfl (.inl rfl) (pe_cl c_draw hr (by first | decide | omega) (by rfl) (pa_cons (pv 0) (pa_cons (pv 1) pa_nil))))
      (pss_cons (ps_set (i := 6) sc_tbl.nd rfl (.inl rfl) (pe_lst pa_nil))
      (pss_cons (ps_for PassesOwn.never (by rfl) (pi_range1 (by rfl) T.z_range (pa_cons (pe_op op_mul (pv 1) (pv 1)) pa_nil)) (pg_name (i := 7) sc_tbl.nd rfl (.inl rfl))
        (pss_cons (ps_par (i := 8) (j := 9) (by rfl) sc_tbl.nd rfl rfl (by decide) rfl rfl (pa_cons (pe_op op_fdiv (pv 7) (pv 1)) (pa_cons (pe_op op_mod (pv 7) (pv 1)) pa_nil)) (by rfl))
        (pss_cons (ps_set (i := 10) sc_tbl.nd rfl (.inl rfl) (pe_lst (pa_cons (pe_op op_mod (pe_op op_add (pv 8) (pv 9)) (pv 1)) (pa_cons (pe_callB (call_max2 rfl) (by rfl) T.z_max (by decide +kernel) (pa_cons (pv 8) (pa_cons (pv 9) pa_nil))) (pa_cons (pe_callB (call_min2 rfl) (by rfl) T.z_min (by decide +kernel) (pa_cons (pv 8) (pa_cons (pv 9) pa_nil))) (pa_cons (pv 5) (pa_cons (pv 8) (pa_cons (pv 9) pa_nil))))))))
        (pss_one (ps_expr (pe_bm PySem.F.plainAttrs_list PySem.F.slot_list_append PySem.F.type_list_append mt_append (pv 6) (pa_cons (pe_ix ix_list (pe_op op_cat (pv 10) (pe_lst (pa_cons (pe_cl c_draw hr (by first | decide | omega) (by rfl) (pa_cons (pv 0) (pa_cons (pv 1) pa_nil))) pa_nil))) (pv 3) (fun _ _ => rfl)) pa_nil)))))))
      (pss_cons (ps_if (pt_cmpR op_eq (pe_cl c_draw hr (by first | decide | omega) (by rfl) (pa_cons (pv 0) (pa_cons pe_int pa_nil))) pe_int (nomark _))
        (pss_one (ps_asg (pe_cl c_draw hr (by first | decide | omega) (by rfl) (pa_cons (pv 0) (pa_cons (pv 1) pa_nil))) (pg_sub (pv 6) (pe_cl c_draw hr (by first | decide | omega) (by rfl) (pa_cons (pv 0) (pa_cons (pe_op op_mul (pv 1) (pv 1)) pa_nil))) set_list)))
        pss_nil)
      (pss_one (ps_ret (pe_callTy call_tuple_of (by rfl) T.z_tuple (by decide +kernel) (pa_cons (pv 6) pa_nil))))))))))), ?_⟩
    have nn : n * n ≤ 36 := Nat.mul_le_mul n6 n6
    have nn1 : 1 ≤ n * n := Nat.mul_le_mul n1 n1
    -- way = draw(purse, 7)
    refine do_seq (do_asg (do_draw (ev_var rfl) (ev_c (v := vi 7)) pu (by omega) (by decide) (by decide) fun way H1 hw o1 pu1 => ?_))
    show tSeq _ _ _ [some (.ref p), some (vi n), some (vi pl), some (vi way), none, none, none, none, none, none, none] H1
    refine q_when (et_test (ev_op (ev_var rfl) ev_c (rv_eq rfl))) (fun hb H2 e2 => ?_) (fun hb H2 e2 => ?_)
    · have p0 : pl = 0 := by
        have z : (pl : Int) = 0 := V.int.inj (of_decide_eq_true hb)
        omega
      subst p0
      refine do_ret (do_tup (do_cons (do_draw (ev_var rfl) (ev_var rfl) (pu1.ex e2) (by omega) n1 (by omega) fun k H3 hk o3 pu3 => ?_)))
      refine ⟨by show 1 ≤ sizeLine; decide, fun r nr => q _ [k] (t + 2) _ (((o1.trans (.of_ex e2)).trans o3).trans (.of_ex (Ex.new nr))) (pu3.ex (Ex.new nr)) (by omega) ⟨r, rfl, st_of upd_same⟩ (tab_of rfl (fun x hx => by rw [List.mem_singleton.mp hx]; exact hk))⟩
    · refine q_when (et_test (ev_op (ev_var rfl) ev_c (rv_eq rfl))) (fun hb1 H3 e3 => ?_) (fun hb1 H3 e3 => ?_)
      · have p1 : pl = 1 := by
          have z : (pl : Int) = 1 := V.int.inj (of_decide_eq_true hb1)
          omega
        subst p1
        have e13 := e2.trans e3
        refine do_set ((do_mixed (l := p) (ev_var rfl) (el_lrg (ev_var rfl) (by omega)) (pu1.ex e13) (by omega) (by simp; omega) fun m ys H4 perm nm o4 pu4 hm => ?_))
        rw [List.length_map, List.length_range] at pu4
        obtain ⟨o, rfl, ord⟩ := perm_nats perm
        obtain ⟨mp, mc⟩ := (pu1.ex e13).fresh nm
        have o14 : Off H H4 p c := (o1.trans (.of_ex e13)).trans o4
        refine do_ret (do_op (do_lst (do_cons (do_cb (do_cons ?_)))))
        refine do_lcIt walk_range (fun R r => w_rng (n := n) (ea_cons (ev_var rfl) ea_nil) (by omega) H4 (Ex.refl _) R r) (fun D i H' => H4 D = none ∧ Off H4 H' p c ∧ Pur H' p c (t + 1 + n + i) ∧ ∃ ks : List Nat, H' D = some (.lst (ks.map vi)) ∧ ks.length = i ∧ ∀ k ∈ ks, k < n)
          (fun D H5 e5 nD => ⟨fresh_back e5 nD, .of_ex (e5.trans (Ex.new nD)), (pu4.ex (e5.trans (Ex.new nD))), [], upd_same, rfl, fun _ z => nomatch z⟩) (fun _ _ _ _ _ => trivial) (fun D i x H5 H6 hi ⟨nD, o5, pu5, ks, hks, lk, low⟩ y => ?_) (fun D H5 ⟨nD, o5, pu5, ks, hks, lk, low⟩ => ?_)
        · obtain ⟨rfl, rfl⟩ := y
          obtain ⟨Dp, Dc⟩ := pu4.fresh nD
          refine ⟨rfl, iteT (do_draw (ev_var rfl) (ev_var rfl) pu5 (by omega) n1 (by omega) fun k H7 hk o7 pu7 => ⟨ks.map vi, o7 _ _ Dp Dc hks, sz_lt (by rw [List.length_map]; omega), nD, (o5.trans o7).upd nD, pu7.upd Dp Dc, ks ++ [k], ?_, by rw [List.length_append, lk]; rfl, fun x hx => ?_⟩)⟩
          · rw [upd_same, List.map_append]
            rfl
          · rcases List.mem_append.mp hx with z | z
            · exact low x z
            · rw [List.mem_singleton.mp z]
              exact hk
        · -- tuple(the list), tuple(turned)
          obtain ⟨Dp, Dc⟩ := pu4.fresh nD
          refine ⟨D, _, rfl, .inl ⟨sq_of hks, fun r nr => ?_⟩⟩
          have hm5 : H5 m = some (.lst (o.map vi)) := o5 _ _ mp mc hm
          have hm6 : (upd H5 r (.tup (ks.map vi))) m = some (.lst (o.map vi)) := Ex.new nr _ _ hm5
          have pu6 := pu5.ex (Ex.new (o := .tup (ks.map vi)) nr)
          refine do_cons (do_evU (eu_tupL (K := K) (ev_var rfl) (sq_of hm6)) fun r2 H7 nr2 e7 hr2 => ?_)
          refine ⟨by show 2 ≤ sizeLine; decide, fun l nl => ?_⟩
          have e68 : Ex (upd H5 r (.tup (ks.map vi))) (upd H7 l (.lst [.ref r, .ref r2])) := e7.trans (Ex.new nl)
          have o18 : Off H (upd H7 l (.lst [.ref r, .ref r2])) p c := ((o14.trans o5).trans (.of_ex (Ex.new nr))).trans (.of_ex e68)
          have pu8 := pu6.ex e68
          have hr8 : (upd H7 l (.lst [.ref r, .ref r2])) r = some (.tup (ks.map vi)) := e68 _ _ upd_same
          have hr28 : (upd H7 l (.lst [.ref r, .ref r2])) r2 = some (.tup (o.map vi)) := Ex.new nl _ _ hr2
          refine do_ev (v := vi (way % 2)) (ev_is (ev_op (ev_var rfl) ev_c (rv_I (by decide))) (by show V.int ((way : Int) % 2) = V.int ((way % 2 : Nat) : Int); rw [Int.natCast_emod]; rfl)) fun H9 e9 => ?_
          have b9 := o18.trans (.of_ex e9)
          have pu9 := pu8.ex e9
          have hl9 : H9 l = some (.lst [.ref r, .ref r2]) := e9 _ _ upd_same
          have le : t + 1 + n + n ≤ t + 100 := by omega
          rcases Nat.mod_two_eq_zero_or_one way with z | z
          · rw [z]
            exact ⟨l, _, 0, .ref r, rfl, rfl, sq_of hl9, rfl, q _ ks _ H9 b9 pu9 le ⟨r, rfl, st_of (e9 _ _ hr8)⟩ (tab_of (by rw [lk, Nat.pow_one]) low)⟩
          · rw [z]
            refine ⟨l, _, 1, .ref r2, rfl, rfl, sq_of hl9, rfl, q _ o _ H9 b9 pu9 le ⟨r2, rfl, st_of (e9 _ _ hr28)⟩ ⟨by rw [ord.len, Nat.pow_one], fun k hk => ord.low k (by rw [Nat.pow_one] at hk; exact hk)⟩⟩
      · have p2' : pl = 2 := by
          have a0 : pl ≠ 0 := fun z => by
            subst z
            exact absurd rfl (of_decide_eq_false hb)
          have a1 : pl ≠ 1 := fun z => by
            subst z
            exact absurd rfl (of_decide_eq_false hb1)
          omega
        subst p2'
        have e13 := e2.trans e3
        refine do_seq (do_asg (do_draw (ev_var rfl) (ev_var rfl) (pu1.ex e13) (by omega) n1 (by omega) fun by' H4 hby o4 pu4 => ?_))
        show tSeq _ _ _ [some (.ref p), some (vi n), some (vi 2), some (vi way), none, some (vi by'), none, none, none, none, none] H4
        have o14 : Off H H4 p c := (o1.trans (.of_ex e13)).trans o4
        refine q_asgL (el_lst ea_nil (Nat.zero_le _)) fun l H5 nl e5 hl => ?_
        obtain ⟨lp, lc⟩ := pu4.fresh nl
        have nlH : H l = none := o14.back lp lc nl
        have o15 : Off H H5 p c := o14.trans (.of_ex e5)
        have pu5 := pu4.ex e5
        have sq : Ev (tOp (rI CMul fun i j => .int (i * j)) (tVar 1) (tVar 1)) [some (.ref p), some (vi n), some (vi 2), some (vi way), none, some (vi by'), some (.ref l), none, none, none, none] H5 (vi (n * n)) := ev_is (ev_op (ev_var rfl) (ev_var rfl) (rv_I (.inl ⟨by omega, by omega⟩))) (by show V.int ((n : Int) * (n : Int)) = V.int ((n * n : Nat) : Int); rw [Int.natCast_mul])
        refine q_forRX (fun m H6 => m = n * n ∧ Ex H5 H6) (fun Q h => ea_cons sq ea_nil H5 (Ex.refl _) Q fun H6 e6 => h (n * n) H6 ⟨rfl, e6⟩) (fun m H6 h => by omega)
          (fun m i σ H' => m = n * n ∧ Off H H' p c ∧ Pur H' p c (t + 2 + i) ∧ (∃ ks : List Nat, H' l = some (.lst (ks.map vi)) ∧ ks.length = i ∧ ∀ k ∈ ks, k < n) ∧ ∃ y7 y8 y9 y10, σ = [some (.ref p), some (vi n), some (vi 2), some (vi way), none, some (vi by'), some (.ref l), y7, y8, y9, y10])
          (fun m H6 ⟨h, e6⟩ => ⟨h, o15.trans (.of_ex e6), pu5.ex e6, ⟨[], e6 _ _ hl, rfl, fun _ z => nomatch z⟩, _, _, _, _, rfl⟩) (fun m i σ H6 hi ⟨hm, o6, pu6, ⟨ks, hks, lk, low⟩, y7, y8, y9, y10, hσ⟩ => ?_) (fun m σ H6 ⟨hm, o6, pu6, ⟨ks, hks, lk, low⟩, y7, y8, y9, y10, hσ⟩ => ?_)
        · subst hσ
          subst hm
          have n0 : 0 < n := n1
          have hq : i / n < n := Nat.div_lt_of_lt_mul hi
          have hr' : i % n < n := Nat.mod_lt _ n0
          -- one, other = k // size, k % size
          have parE : EvA (tCons (tOp (rI CDiv fun i j => .int (i / j)) (tVar 7) (tVar 1)) (tCons (tOp (rI (fun _ j => 0 < j) fun i j => .int (i % j)) (tVar 7) (tVar 1)) tNil)) [some (.ref p), some (vi n), some (vi 2), some (vi way), none, some (vi by'), some (.ref l), some (vi i), y8, y9, y10] H6 [vi (i / n), vi (i % n)] :=
            ea_cons (ev_is (ev_op (ev_var rfl) (ev_var rfl) (rv_I ⟨by omega, by omega⟩)) (by show V.int ((i : Int) / (n : Int)) = V.int ((i / n : Nat) : Int); rw [Int.natCast_ediv])) (ea_cons (ev_is (ev_op (ev_var rfl) (ev_var rfl) (rv_I (by show (0 : Int) < (n : Int); omega))) (by show V.int ((i : Int) % (n : Int)) = V.int ((i % n : Nat) : Int); rw [Int.natCast_emod])) ea_nil)
          refine do_seq (parE H6 (Ex.refl _) _ fun H7 e7 => ⟨_, _, rfl, ?_⟩)
          show tSeq _ _ _ [some (.ref p), some (vi n), some (vi 2), some (vi way), none, some (vi by'), some (.ref l), some (vi i), some (vi (i / n)), some (vi (i % n)), y10] H7
          have someE : EvL (tLst (tCons (tOp (rI (fun _ j => 0 < j) fun i j => .int (i % j)) (tOp (rI0 fun i j => .int (i + j)) (tVar 8) (tVar 9)) (tVar 1)) (tCons (tCB rMax2 (tCons (tVar 8) (tCons (tVar 9) tNil))) (tCons (tCB (fun xs H Q => ∃ i j, xs = [.int i, .int j] ∧ Q (.int (if j < i then j else i)) H) (tCons (tVar 8) (tCons (tVar 9) tNil))) (tCons (tVar 5) (tCons (tVar 8) (tCons (tVar 9) tNil)))))))
              [some (.ref p), some (vi n), some (vi 2), some (vi way), none, some (vi by'), some (.ref l), some (vi i), some (vi (i / n)), some (vi (i % n)), y10] H7 ([(i / n + i % n) % n, max (i / n) (i % n), min (i / n) (i % n), by', i / n, i % n].map vi) :=
            el_lst (ea_cons (ev_is (ev_op (ev_op (ev_var rfl) (ev_var rfl) rv_I0) (ev_var rfl) (rv_I (by show (0 : Int) < (n : Int); omega))) (vi_addmod (i / n) (i % n) n)) (ea_cons (ev_is (ev_max2 (ev_var rfl) (ev_var rfl)) (vi_max _ _)) (ea_cons (ev_is (ev_cb (z := .int (if ((i % n : Nat) : Int) < ((i / n : Nat) : Int) then ((i % n : Nat) : Int) else ((i / n : Nat) : Int))) (ea_cons (ev_var rfl) (ea_cons (ev_var rfl) ea_nil)) (fun H8 _ Q q8 => ⟨_, _, rfl, q8 H8 (Ex.refl _)⟩)) (vi_min _ _)) (ea_cons (ev_var rfl) (ea_cons (ev_var rfl) (ea_cons (ev_var rfl) ea_nil)))))) (by show 6 ≤ 100000; decide)
          refine q_asgL someE fun sl H8 nsl e8 hsl => ?_
          have e68 : Ex H6 H8 := e7.trans e8
          have o8 : Off H H8 p c := o6.trans (.of_ex e68)
          have pu8 := pu6.ex e68
          have hl8 : H8 l = some (.lst (ks.map vi)) := e68 _ _ hks
          obtain ⟨slp, slc⟩ := (pu6.ex e7).fresh nsl
          have lsl : l ≠ sl := fun z => by
            subst z
            rw [e7 _ _ hks] at nsl
            cases nsl
          refine do_app hl8 (ev_var rfl) fun H9 e9 => do_op (do_op (do_ev (ev_var rfl) fun H10 e10 => do_lst (do_cons (do_draw (ev_var rfl) (ev_var rfl) (pu8.ex (e9.trans e10)) (by omega) n1 (by omega) fun k H11 hk o11 pu11 => ?_))))
          have e810 := e9.trans e10
          have hsl11 : H11 sl = some (.lst ([(i / n + i % n) % n, max (i / n) (i % n), min (i / n) (i % n), by', i / n, i % n].map vi)) := o11 _ _ slp slc (e810 _ _ hsl)
          have hl11 : H11 l = some (.lst (ks.map vi)) := o11 _ _ lp lc (e810 _ _ hl8)
          refine ⟨by show 1 ≤ sizeLine; decide, fun r nr => ⟨sl, r, _, _, rfl, rfl, Ex.new nr _ _ hsl11, upd_same, by show 7 ≤ sizeLine; decide, fun r2 nr2 => do_ev (ev_var rfl) fun H12 e12 => ?_⟩⟩
          have e1112 : Ex H11 H12 := ((Ex.new nr).trans (Ex.new nr2)).trans e12
          have seven : ∀ x ∈ [(i / n + i % n) % n, max (i / n) (i % n), min (i / n) (i % n), by', i / n, i % n, k], x < n := by
            have h1 : (i / n + i % n) % n < n := Nat.mod_lt _ n0
            intro x hx
            simp only [List.mem_cons, List.not_mem_nil, or_false] at hx
            rcases hx with rfl | rfl | rfl | rfl | rfl | rfl | rfl
            · exact h1
            · exact Nat.max_lt.mpr ⟨hq, hr'⟩
            · exact Nat.lt_of_le_of_lt (Nat.min_le_left _ _) hq
            · exact hby
            · exact hq
            · exact hr'
            · exact hk
          obtain ⟨kk, hkk⟩ : ∃ kk, [(i / n + i % n) % n, max (i / n) (i % n), min (i / n) (i % n), by', i / n, i % n, k][way]? = some kk := ⟨_, List.getElem?_eq_getElem hw⟩
          have kkn : kk < n := seven kk (List.mem_iff_getElem?.mpr ⟨way, hkk⟩)
          have hat : ([(i / n + i % n) % n, max (i / n) (i % n), min (i / n) (i % n), by', i / n, i % n, k].map vi)[way]? = some (vi kk) := by
            rw [List.getElem?_map, hkk]
            rfl
          refine ⟨r2, _, (way : Int), vi kk, rfl, rfl, sq_of (e12 _ _ upd_same), atI_nat hat, ⟨l, _, _, rfl, rfl, e1112 _ _ hl11, sz_lt (by rw [List.length_map, lk]; omega), ?_⟩⟩
          refine ⟨rfl, ((o8.trans (.of_ex e810)).trans (o11.trans (.of_ex e1112))).upd nlH, (pu11.ex e1112).upd lp lc, ⟨ks ++ [kk], ?_, by rw [List.length_append, lk]; rfl, fun x hx => ?_⟩, _, _, _, _, rfl⟩
          · rw [upd_same, List.map_append]
            rfl
          · rcases List.mem_append.mp hx with z | z
            · exact low x z
            · rw [List.mem_singleton.mp z]
              exact kkn
        · subst hσ
          subst hm
          have fin : ∀ (H' : Hp) (ks : List Nat) (t' : Nat), Off H H' p c → Pur H' p c t' → t' ≤ t + 100 → H' l = some (.lst (ks.map vi)) → ks.length = n * n → (∀ k ∈ ks, k < n) → (tCB (rTupOf K) (tCons (tVar 6) tNil)) [some (.ref p), some (vi n), some (vi 2), some (vi way), none, some (vi by'), some (.ref l), y7, y8, y9, y10] H' Q := fun H' ks t' o' pu' le hl' lk' low' =>
            do_evU (eu_tupL (K := K) (ev_var rfl) (sq_of hl')) fun r H2 nr e2 hr => q _ ks t' H2 (o'.trans (.of_ex e2)) (pu'.ex e2) le ⟨r, rfl, st_of hr⟩ (tab_of (by rw [lk', Nat.pow_two]) low')
          refine do_seq (do_if (do_test (do_op (do_draw (ev_var rfl) ev_c pu6 (by omega) (by decide) (by decide) fun k H7 hk o7 pu7 => do_ev ev_c fun H8 e8 => rv_eq rfl H8 (Ex.refl _) _ fun H9 e9 => ⟨_, rfl, ?_⟩))))
          have e79 := e8.trans e9
          have o9 : Off H H9 p c := (o6.trans o7).trans (.of_ex e79)
          have pu9 := pu7.ex e79
          have hl9 : H9 l = some (.lst (ks.map vi)) := e79 _ _ (o7 _ _ lp lc hks)
          split
          · refine do_asg (do_draw (ev_var rfl) (ev_var rfl) pu9 (by omega) n1 (by omega) fun v H10 hv o10 pu10 => do_sub (do_ev (ev_var rfl) fun H11 e11 => do_draw (n := n * n) (ev_var rfl) (ev_is (ev_op (ev_var rfl) (ev_var rfl) (rv_I (.inl ⟨by omega, by omega⟩))) (by show V.int ((n : Int) * (n : Int)) = V.int ((n * n : Nat) : Int); rw [Int.natCast_mul])) (pu10.ex e11) (by omega) nn1 (by omega) fun j H12 hj o12 pu12 => ?_))
            have hl12 : H12 l = some (.lst (ks.map vi)) := o12 _ _ lp lc (e11 _ _ (o10 _ _ lp lc hl9))
            refine ⟨l, _, (j : Int), j, rfl, rfl, hl12, ixN_nat (by rw [List.length_map, lk]; exact hj), ?_⟩
            refine fin _ (ks.set j v) _ (((o9.trans o10).trans ((Off.of_ex e11).trans o12)).upd nlH) (pu12.upd lp lc) (by omega) (by rw [upd_same, List.map_set]) (by rw [List.length_set, lk]) fun x hx => ?_
            rcases List.mem_or_eq_of_mem_set hx with z | z
            · exact low x z
            · rw [z]
              exact hv
          · exact fin _ ks _ o9 pu9 (by omega) hl9 lk low
end
end K22
end
section
namespace K22
open PySem PySem.Spec PyProof.Rows L2 Evl RZ Dw M20
section
variable {P : Program} {w : World} {K : PySem.W.Frag} {mg : Str → Option Value} {base : Heap}
/-! ### a model drawn -/
def sp_model (K : PySem.W.Frag) : Sp := fun vs H Q _ => ∃ (p c : Addr) (t n : Nat) (u : V) (sg : List (Str × Nat)), vs = [.ref p, u, vi n] ∧ Pur H p c t ∧ t ≤ 70000 ∧ 1 ≤ n ∧ n ≤ 6 ∧ Sig K H u sg ∧ SigOk sg ∧ ∀ v ts t' H', Off H H' p c → Pur H' p c t' → t' ≤ t + 400 → Mdl K H' v n ts → MdlOk sg n ts → Q v H'
theorem c_model (T : Txt mg) (D : Df K mg "_law_model" s_mdl ["_law_purse_here", "_law_signature_here", "_law_size"]) (c_table : Cl P w K mg base 3 "_law_table" (sp_table K)) : Cl P w K mg base 4 "_law_model" (sp_model K) := by
  refine cl_of (k := 3) D sc_mdl (fun vs H Q E h => ?_) (fun f cdv A outer s H vs Q E hr h => ?_)
  · obtain ⟨p, c, t, n, u, sg, rfl, _⟩ := h
    rfl
  · obtain ⟨p, c, t, n, u, sg, rfl, pu, t1, n1, n6, hG, sok, q⟩ := h
    refine ⟨_, (pss_one (ps_ret (pe_tup (pa_cons (pv 2) (pa_cons (pe_callTy call_tuple_of (by rfl) T.z_tuple (by decide +kernel) (pa_cons (pe_lc (own := [("_law_name", 3), ("_law_places", 4)]) (g := (gTup _ 2 (gCons (gName 3) (gCons (gName 4) gNil)))) (by rfl) sc_mdl.nd (pi_tup (pv 1)) (blkOk_by (own := [("_law_name", 3), ("_law_places", 4)]) (N := ["_law_purse_here", "_law_signature_here", "_law_size", "_law_name", "_law_places"]) (sc := (defScope s_mdl)) (by decide +kernel)) (fun _ _ _ _ _ => (pg_tup (by rfl) (pgs_cons (pg_name (i := 3) sc_mdl.nd rfl (.inl rfl)) (pgs_cons (pg_name (i := 4) sc_mdl.nd rfl (.inl rfl)) pgs_nil)))) (fun _ _ _ _ _ => pts_nil) (fun _ _ _ _ _ => (pe_cl c_table hr (by first | decide | omega) (by rfl) (pa_cons (pv 0) (pa_cons (pv 2) (pa_cons (pv 4) pa_nil)))))) pa_nil)) pa_nil))))), ?_⟩
    obtain ⟨a, us, rfl, hS, hP⟩ := id hG
    have lS : us.length = sg.length := paired_len hP
    have l4 := sok.l4
    refine do_ret (do_tup (do_cons (do_ev (ev_var rfl) fun H1 e1 => do_cons (do_cb (do_cons ?_)))))
    have hS1 : SqT K H1 a us := ex_t e1 hS
    have pu1 := pu.ex e1
    refine do_lcIt walk_tup (fun R r => w_tup (K := K) (ev_var rfl) hS1 H1 (Ex.refl _) R r) (fun Dl i H' => H1 Dl = none ∧ Off H1 H' p c ∧ (∃ t', Pur H' p c t' ∧ t' ≤ t + 100 * i) ∧ ∃ ws ts, H' Dl = some (.lst ws) ∧ Paired (Nats K H') ws ts ∧ ts.length = i ∧ ∀ (j : Nat) d tb, sg[j]? = some d → ts[j]? = some tb → Tab n d.2 tb)
      (fun Dl H2 e2 nD => ⟨fresh_back e2 nD, .of_ex (e2.trans (Ex.new nD)), ⟨t, pu1.ex (e2.trans (Ex.new nD)), by omega⟩, [], [], upd_same, .nil, rfl, fun j d tb _ h2 => by rw [List.getElem?_nil] at h2; cases h2⟩) (fun Dl i H' _ ⟨_, o, _⟩ => o.et pu1 _ _ hS1) (fun Dl i x H2 H3 hi ⟨nD, o2, ⟨t', pu2, lt'⟩, ws, ts, hws, pws, lts, tabs⟩ y => ?_) (fun Dl H2 ⟨nD, o2, ⟨t', pu2, lt'⟩, ws, ts, hws, pws, lts, tabs⟩ => ?_)
    · obtain ⟨rfl, hx⟩ := y
      have hi2 : i < sg.length := by rw [← lS]; exact hi
      obtain ⟨x', ex', b, hb, db⟩ := paired_get hP (List.getElem?_eq_getElem hi2)
      have : x' = x := Option.some.inj (ex'.symm.trans hx)
      subst this
      subst hb
      obtain ⟨Dp1, Dc1⟩ := pu1.fresh nD
      have db3 : SqT K H3 b [.str sg[i].1, vi sg[i].2] := o2.et pu1 _ _ (ex_t e1 db)
      refine ⟨b, _, rfl, db3, rfl, _, _, rfl, _, _, rfl, rfl, rfl, iteT ?_⟩
      refine ea_cons (ev_var rfl) (ea_cons (ev_var rfl) (ea_cons (ev_var rfl) ea_nil)) H3 (Ex.refl H3) _ fun H4 e4 => ⟨p, c, t', n, sg[i].2, rfl, pu2.ex e4, by omega, n1, n6, sok.pl _ (List.getElem_mem hi2), fun v tb t2 H5 o5 pu5 l5 nt tt => ?_⟩
      have o35 : Off H3 H5 p c := (Off.of_ex e4).trans o5
      have hws5 : H5 Dl = some (.lst ws) := o35 _ _ Dp1 Dc1 hws
      have lw : ws.length = i := by rw [paired_len pws, lts]
      have et : ET K H5 (upd H5 Dl (.lst (ws ++ [v]))) := ET.refl.upd hws5
      refine ⟨ws, hws5, sz_lt (by omega), nD, (o2.trans o35).upd nD, ⟨t2, pu5.upd Dp1 Dc1, by omega⟩, ws ++ [v], ts ++ [tb], upd_same, paired_snoc (nt.et et) (paired_imp (fun _ _ z => z.et ((o35.et pu2).trans et)) pws), by rw [List.length_append, lts]; rfl, fun j d tb' h1 h2 => ?_⟩
      by_cases hj : j < ts.length
      · rw [List.getElem?_append_left hj] at h2
        exact tabs j d tb' h1 h2
      · have hj2 : j < (ts ++ [tb]).length := (List.getElem?_eq_some_iff.mp h2).1
        rw [List.length_append, List.length_singleton] at hj2
        have ej : j = ts.length := by omega
        subst ej
        rw [List.getElem?_append_right (Nat.le_refl _), Nat.sub_self] at h2
        cases Option.some.inj h2
        rw [lts, List.getElem?_eq_getElem hi2] at h1
        cases Option.some.inj h1
        exact tt
    · refine ⟨Dl, ws, rfl, .inl ⟨sq_of hws, fun r nr => ⟨by show 2 ≤ sizeLine; decide, fun m nm => ?_⟩⟩⟩
      have e24 : Ex H2 (upd (upd H2 r (.tup ws)) m (.tup [vi n, .ref r])) := (Ex.new nr).trans (Ex.new nm)
      refine q _ ts t' _ (((Off.of_ex e1).trans o2).trans (.of_ex e24)) (pu2.ex e24) (by omega) ⟨m, .ref r, rfl, st_of upd_same, r, ws, rfl, st_of (Ex.new nm _ _ upd_same), paired_imp (fun _ _ z => z.ex e24) pws⟩ ?_
      exact { len := by rw [lts, lS], n1 := n1, n6 := n6, tab := fun i h1 h2 => tabs i _ _ (List.getElem?_eq_getElem h1) (List.getElem?_eq_getElem h2) }
/-! ### the law's own renaming -/
section
variable {σ : L2.St} {H : Hp} {ta tb te : TE}
theorem ev_mulN {a b : Nat} (ha : Ev ta σ H (vi a)) (hb : Ev tb σ H (vi b)) (la : a ≤ 1000) (lb : b ≤ 1000) : Ev (tOp (rI CMul fun i j => .int (i * j)) ta tb) σ H (vi (a * b)) := ev_is (ev_op ha hb (rv_I (.inl ⟨by omega, by omega⟩))) (by show V.int ((a : Int) * (b : Int)) = V.int ((a * b : Nat) : Int); rw [Int.natCast_mul])
theorem ev_addN {a b : Nat} (ha : Ev ta σ H (vi a)) (hb : Ev tb σ H (vi b)) : Ev (tOp (rI0 fun i j => .int (i + j)) ta tb) σ H (vi (a + b)) := ev_is (ev_op ha hb rv_I0) (by show V.int ((a : Int) + (b : Int)) = V.int ((a + b : Nat) : Int); rw [Int.natCast_add])
theorem ev_modN {a b : Nat} (ha : Ev ta σ H (vi a)) (hb : Ev tb σ H (vi b)) (b0 : 0 < b) : Ev (tOp (rI (fun _ j => 0 < j) fun i j => .int (i % j)) ta tb) σ H (vi (a % b)) := ev_is (ev_op ha hb (rv_I (by show (0 : Int) < (b : Int); omega))) (by show V.int ((a : Int) % (b : Int)) = V.int ((a % b : Nat) : Int); rw [Int.natCast_emod])
theorem ev_divN {a b : Nat} (ha : Ev ta σ H (vi a)) (hb : Ev tb σ H (vi b)) (b0 : 0 < b) (la : a ≤ 1000) (lb : b ≤ 1000) : Ev (tOp (rI CDiv fun i j => .int (i / j)) ta tb) σ H (vi (a / b)) := ev_is (ev_op ha hb (rv_I ⟨by omega, by omega⟩)) (by show V.int ((a : Int) / (b : Int)) = V.int ((a / b : Nat) : Int); rw [Int.natCast_ediv])
def rInt1 : List V → Hp → VK → Prop := fun xs H Q => (∃ i, xs = [.int i] ∧ Q (.int i) H) ∨ ∃ k, xs = [.bl k] ∧ Q (.int (if k then 1 else 0)) H
theorem ev_intB {b : Bool} (h : Ev te σ H (.bl b)) : Ev (tCB rInt1 (tCons te tNil)) σ H (vi (if b = true then 1 else 0)) := fun H1 e Q q => h H1 e _ fun H2 e2 => .inr ⟨b, rfl, by
  have z := q H2 e2
  cases b <;> exact z⟩
def rLstOf (K : PySem.W.Frag) : List V → Hp → VK → Prop := fun xs H Q => ∃ p ys, xs = [.ref p] ∧ (SqL K H p ys ∨ SqT K H p ys) ∧ ∀ l, H l = none → Q (.ref l) (upd H l (.lst ys))
theorem el_lstT {xs : List V} {p : Addr} (h : Ev te σ H (.ref p)) (hp : SqT K H p xs) : EvL (tCB (rLstOf K) (tCons te tNil)) σ H xs := fun H1 e Q q =>
  h H1 e _ fun H2 e2 => ⟨p, xs, rfl, .inr (ex_t (e.trans e2) hp), fun l nl => q l _ (fresh_back e2 nl) (e2.trans (Ex.new nl)) upd_same⟩
theorem ev_ixN {a : Addr} {ns : List Nat} {k : Nat} (ha : Ev ta σ H (.ref a)) (hb : Ev tb σ H (vi k)) (h : SqT K H a (ns.map vi)) (hk : k < ns.length) : Ev (tOp (rIxT K) ta tb) σ H (vi (g ns k)) := ev_op ha hb (rv_ixT h (atI_vi (k := k) (by rw [List.getElem?_map, g_eq hk]; rfl)))
end
theorem c_led (T : Txt mg) (D : Df K mg "_law_led" s_led ["_law_signature_here", "_law_model_here", "_law_order_here"]) : Cl P w K mg base 1 "_law_led" (sp_renamed K) := by
  refine cl_of (k := 0) D sc_led (fun vs H Q E h => ?_) (fun f cdv A outer s H vs Q E hr h => ?_)
  · obtain ⟨p, ⟨⟨u, v, x, rfl, _⟩, _⟩, _⟩ := h
    rfl
  · obtain ⟨⟨sg, n, ts, o⟩, ⟨⟨u, v, x, rfl, hG, hM, hO⟩, sok, mok, ord⟩, q⟩ := h
    refine ⟨_, (pss_cons (ps_asg (pv 1) (pg_tup (by rfl) (pgs_cons (pg_name (i := 3) sc_led.nd rfl (.inl rfl)) (pgs_cons (pg_name (i := 4) sc_led.nd rfl (.inl rfl)) pgs_nil))))
      (pss_cons (ps_set (i := 5) sc_led.nd rfl (.inl rfl) (pe_lst pa_nil))
      (pss_cons (ps_for PassesOwn.never (by rfl) (pi_zipA (by rfl) T.z_zip (pa_cons (pv 0) (pa_cons (pv 4) pa_nil))) (pg_tup (by rfl) (pgs_cons (pg_tup (by rfl) (pgs_cons (pg_name (i := 6) sc_led.nd rfl (.inl rfl)) (pgs_cons (pg_name (i := 7) sc_led.nd rfl (.inl rfl)) pgs_nil))) (pgs_cons (pg_name (i := 8) sc_led.nd rfl (.inl rfl)) pgs_nil)))
        (pss_cons (ps_set (i := 9) sc_led.nd rfl (.inl rfl) (pe_callTy call_list_of (by rfl) T.z_list (by decide +kernel) (pa_cons (pv 8) pa_nil)))
        (pss_cons (ps_for PassesOwn.never (by rfl) (pi_range1 (by rfl) T.z_range (pa_cons (pe_callB call_len_seq (by rfl) T.z_len PySem.boot_len (pa_cons (pv 8) pa_nil)) pa_nil)) (pg_name (i := 10) sc_led.nd rfl (.inl rfl))
          (pss_cons (ps_set (i := 11) sc_led.nd rfl (.inl rfl) (pe_op op_mul (pe_ix ix_tup (pv 2) (pe_op op_mod (pv 10) (pv 3)) (fun _ _ => rfl)) (pe_callTy call_int1 (by rfl) T.z_int (by decide +kernel) (pa_cons (pe_cmpR op_gt (pv 7) pe_int (nomark _)) pa_nil))))
          (pss_cons (ps_set (i := 11) sc_led.nd rfl (.inl rfl) (pe_op op_add (pv 11) (pe_op op_mul (pe_op op_mul (pe_ix ix_tup (pv 2) (pe_op op_mod (pe_op op_fdiv (pv 10) (pv 3)) (pv 3)) (fun _ _ => rfl)) (pv 3)) (pe_callTy call_int1 (by rfl) T.z_int (by decide +kernel) (pa_cons (pe_cmpR op_eq (pv 7) pe_int (nomark _)) pa_nil)))))
          (pss_one (ps_asg (pe_ix ix_tup (pv 2) (pe_ix ix_tup (pv 8) (pv 10) (fun _ _ => rfl)) (fun _ _ => rfl)) (pg_sub (pv 9) (pv 11) set_list))))))
        (pss_one (ps_expr (pe_bm PySem.F.plainAttrs_list PySem.F.slot_list_append PySem.F.type_list_append mt_append (pv 5) (pa_cons (pe_callTy call_tuple_of (by rfl) T.z_tuple (by decide +kernel) (pa_cons (pv 9) pa_nil)) pa_nil)))))))
      (pss_one (ps_ret (pe_tup (pa_cons (pv 3) (pa_cons (pe_callTy call_tuple_of (by rfl) T.z_tuple (by decide +kernel) (pa_cons (pv 5) pa_nil)) pa_nil)))))))), ?_⟩
    replace sok : SigOk sg := sok
    replace mok : MdlOk sg n ts := mok
    replace ord : Ord n o := ord
    have n1 := mok.n1
    have n6 := mok.n6
    obtain ⟨z, tv, rfl, hZ, hT⟩ := id hM
    obtain ⟨a, us, rfl, hS, hP⟩ := id hG
    obtain ⟨b, tvs, rfl, hB, hR⟩ := id hT
    obtain ⟨oa, rfl, hO'⟩ := id hO
    replace hP : Paired (Deed K H) us sg := hP
    replace hR : Paired (Nats K H) tvs ts := hR
    replace hO' : SqT K H oa (o.map vi) := hO'
    have lS : us.length = sg.length := paired_len hP
    have lT : tvs.length = ts.length := paired_len hR
    have lM : ts.length = sg.length := mok.len
    refine ⟨.ref z, rfl, z, _, rfl, hZ, rfl, _, _, rfl, _, _, rfl, rfl, ?_⟩
    refine q_asgL (el_lst ea_nil (Nat.zero_le _)) fun m H1 nm e1 hm => ?_
    refine q_zipT (ea_cons (ev_var rfl) (ea_cons (ev_var rfl) ea_nil)) (ex_t e1 hS) (ex_t e1 hB) (by rw [lS, lT, lM]) (fun i σ H' => Ex H H' ∧ (∃ ws, H' m = some (.lst ws) ∧ Paired (Nats K H') ws ((rens n o sg ts).take i)) ∧ ∃ y6 y7 y8 y9 y10 y11, σ = [some (.ref a), some (.ref z), some (.ref oa), some (vi n), some (.ref b), some (.ref m), y6, y7, y8, y9, y10, y11])
      (fun H2 e2 => ⟨e1.trans e2, ⟨[], e2 _ _ hm, .nil⟩, none, none, none, none, none, none, rfl⟩) (fun i σ H' _ ⟨e, _⟩ => ⟨ex_t e hS, ex_t e hB⟩) (fun i d tv p σ H2 hd ht ⟨e2, ⟨ws, hws, pws⟩, y6, y7, y8, y9, y10, y11, hσ⟩ np => ?_) (fun σ H2 ⟨e2, ⟨ws, hws, pws⟩, y6, y7, y8, y9, y10, y11, hσ⟩ => ?_)
    · subst hσ
      have hi : i < sg.length := by rw [← lS]; exact (List.getElem?_eq_some_iff.mp hd).1
      have hi2 : i < ts.length := by rw [lM]; exact hi
      obtain ⟨d', ed', c, hc, dc⟩ := paired_get hP (List.getElem?_eq_getElem hi)
      have : d' = d := Option.some.inj (ed'.symm.trans hd)
      subst this
      subst hc
      obtain ⟨t', et', r, hr', nt⟩ := paired_get hR (List.getElem?_eq_getElem hi2)
      have : t' = tv := Option.some.inj (et'.symm.trans ht)
      subst this
      subst hr'
      have e3 : Ex H2 (upd H2 p (.tup [.ref c, .ref r])) := Ex.new np
      have e03 : Ex H (upd H2 p (.tup [.ref c, .ref r])) := e2.trans e3
      have p2 : sg[i].2 ≤ 2 := sok.pl _ (List.getElem_mem hi)
      have tab := mok.tab i hi hi2
      generalize hpl : sg[i].2 = pl at *
      generalize htb : ts[i] = tb at *
      have big : n ^ pl ≤ 36 := by
        have h1 : n ^ pl ≤ 6 ^ pl := Nat.pow_le_pow_left n6 pl
        have h2 : 6 ^ pl ≤ 6 ^ 2 := Nat.pow_le_pow_right (by decide) p2
        omega
      refine ⟨p, _, rfl, st_of upd_same, rfl, _, _, rfl, ⟨c, _, rfl, ex_t e03 dc, rfl, _, _, rfl, _, _, rfl, rfl, ?_⟩⟩
      refine ⟨_, _, rfl, rfl, ?_⟩
      refine q_asgL (el_lstT (K := K) (ev_var rfl) (ex_t e03 nt)) fun l H4 nl e4 hl => ?_
      have nlH : H l = none := fresh_back e03 nl
      have lm : l ≠ m := fun z => by
        subst z
        rw [e3 _ _ hws] at nl
        cases nl
      have e04 : Ex H H4 := e03.trans e4
      refine q_forR1 (n := ((n ^ pl : Nat) : Int)) (ea_cons (ev_is (ev_lenT (ev_var rfl) (ex_t e04 nt)) (by rw [List.length_map, tab.len])) ea_nil) ⟨by omega, by omega⟩
        (fun k σ H' => Ex (upd H2 p (.tup [.ref c, .ref r])) H' ∧ H' l = some (.lst ((led n pl o tb k).map vi)) ∧ ∃ y10 y11, σ = [some (.ref a), some (.ref z), some (.ref oa), some (vi n), some (.ref b), some (.ref m), some (.str sg[i].1), some (vi pl), some (.ref r), some (.ref l), y10, y11])
        (fun H5 e5 => ⟨e4.trans e5, e5 _ _ hl, _, _, rfl⟩) (fun k σ H5 hk ⟨e5, hl5, y10, y11, hσ⟩ => ?_) (fun σ H5 ⟨e5, hl5, y10, y11, hσ⟩ => ?_)
      · subst hσ
        have hk' : k < n ^ pl := by omega
        have n0 : 0 < n := n1
        have e05 : Ex H H5 := e03.trans e5
        have k1 : k % n < o.length := by rw [ord.len]; exact Nat.mod_lt _ n0
        have k2 : k / n % n < o.length := by rw [ord.len]; exact Nat.mod_lt _ n0
        have g1 : g o (k % n) < n := ord.low _ (Nat.mod_lt _ n0)
        have g2 : g o (k / n % n) < n := ord.low _ (Nat.mod_lt _ n0)
        have gm : g o (k / n % n) * n ≤ 36 := Nat.mul_le_mul (show g o (k / n % n) ≤ 6 by omega) n6
        have kt : k < tb.length := by rw [tab.len]; exact hk'
        have gt : g tb k < o.length := by rw [ord.len]; exact tab.low k hk'
        refine q_asg (v := vi (g o (k % n) * (if 0 < pl then 1 else 0))) (ev_is (ev_mulN (ev_ixN (K := K) (ev_var rfl) (ev_modN (ev_var rfl) (ev_var rfl) n0) (ex_t e05 hO') k1) (ev_intB (b := decide ((pl : Int) > 0)) (ev_op (ev_var rfl) ev_c rv_I0)) (by omega) (by split <;> omega)) (by simp)) fun H6 e6 => ?_
        have e56 := e05.trans e6
        refine q_asg (v := vi (spot n pl o k)) (ev_is (ev_addN (ev_var rfl) (ev_mulN (ev_mulN (ev_ixN (K := K) (ev_var rfl) (ev_modN (ev_divN (ev_var rfl) (ev_var rfl) n0 (by omega) (by omega)) (ev_var rfl) n0) (ex_t e56 hO') k2) (ev_var rfl) (by omega) (by omega)) (ev_intB (b := decide (vi pl = V.int 2)) (ev_op (ev_var rfl) ev_c (rv_eq rfl))) (by omega) (by split <;> omega))) ?_) fun H7 e7 => ?_
        · unfold spot
          by_cases h2 : pl = 2
          · subst h2
            rfl
          · have h3 : ¬ (vi pl = V.int 2) := fun z => h2 (by have := V.int.inj z; omega)
            simp [h2, h3]
        have e57 := e56.trans e7
        have e67 := e6.trans e7
        refine s_setL (e67 _ _ hl5) (ev_ixN (K := K) (ev_var rfl) (ev_ixN (K := K) (ev_var rfl) (ev_var rfl) (ex_t e57 nt) kt) (ex_t e57 hO') gt) (ev_var rfl) (ev_var rfl) (by rw [List.length_map, led_len, tab.len]; exact spot_low p2 ord hk') fun H8 e8 => ?_
        refine ⟨((e5.trans e67).trans e8).mut nl, ?_, _, _, rfl⟩
        rw [upd_same, ← List.map_set]
        rfl
      · subst hσ
        have e05 : Ex H H5 := e03.trans e5
        have et5 : (led n pl o tb ((n ^ pl : Nat) : Int).toNat).map vi = (ren n pl o tb).map vi := by rw [Int.toNat_natCast, led_ren p2 ord tab]
        rw [et5] at hl5
        have hm5 : H5 m = some (.lst ws) := e5 _ _ (e3 _ _ hws)
        refine s_appU hm5 (ev_var rfl) (eu_tupL (K := K) (ev_var rfl) (sq_of hl5)) ?_ fun r2 H6 nr2 e6 hr2 => ?_
        · have l1 := paired_len pws
          rw [List.length_take, rens_len lM] at l1
          have := sok.l4
          omega
        · have e06 : Ex H H6 := e05.trans e6
          have hm6 : H6 m = some (.lst ws) := e6 _ _ hm5
          refine ⟨e06.mut nm, ⟨ws ++ [.ref r2], upd_same, ?_⟩, _, _, _, _, _, _, rfl⟩
          have et : ET K H6 (upd H6 m (.lst (ws ++ [.ref r2]))) := ET.refl.upd hm6
          rw [List.take_add_one, rens_at hi hi2, hpl, htb]
          exact paired_snoc (Nats.et et ⟨r2, rfl, st_of hr2⟩) (paired_imp (fun _ _ z => Nats.et (ET.trans (Dw.Ex.et (e3.trans (e5.trans e6))) et) z) pws)
    · subst hσ
      have full : (rens n o sg ts).take us.length = rens n o sg ts := List.take_of_length_le (by rw [rens_len lM, lS]; exact Nat.le_refl _)
      rw [full] at pws
      refine do_ret (do_tup (do_cons (do_ev (ev_var rfl) fun H3 e3 => do_cons (do_evU (eu_tupL (K := K) (ev_var rfl) (sq_of (e3 _ _ hws))) fun r H4 nr e4 hr4 => ⟨by show 2 ≤ sizeLine; decide, fun r2 nr2 => ?_⟩))))
      have e24 := (e3.trans e4).trans (Ex.new (o := .tup [vi n, .ref r]) nr2)
      exact q _ _ (e2.trans e24) ⟨r2, .ref r, rfl, st_of upd_same, r, ws, rfl, st_of (Ex.new nr2 _ _ hr4), paired_imp (fun _ _ z => Nats.ex e24 z) pws⟩
end
end K22
end
section
namespace K22
open PySem PySem.Spec PyProof.Rows L2 Evl RZ Dw M20
theorem idx_int (k : Nat) : ∀ o : List Nat, (o.map fun n => ((n : Nat) : Int)).idxOf ((k : Nat) : Int) = o.idxOf k
  | [] => rfl
  | a :: o => by
    rw [List.map_cons, List.idxOf_cons, List.idxOf_cons, idx_int k o]
    by_cases h : a = k
    · subst h
      simp
    · have h2 : ¬ ((a : Int) = (k : Int)) := by omega
      rw [beq_false_of_ne h, beq_false_of_ne h2]
section
variable {P : Program} {w : World} {K : PySem.W.Frag} {mg : Str → Option Value} {base : Heap}
end
end K22
end
section
namespace K22
open PySem PySem.Spec PyProof.Rows L2 Evl RZ Dw M20
/-! ### renaming of whole models -/
section
variable {n : Nat} {a b o : List Nat} {sg : List (Str × Nat)} {ts : List (List Nat)}
theorem ord_low {n : Nat} {o : List Nat} (h : Ord n o) : ∀ k ∈ o, k < n := fun k hk => by
  obtain ⟨i, hi⟩ := List.mem_iff_getElem?.mp hk
  have il : i < o.length := (List.getElem?_eq_some_iff.mp hi).1
  rw [g_eq il] at hi
  cases Option.some.inj hi
  exact h.low i (by rw [← h.len]; exact il)
theorem MdlOk.gd (m : MdlOk sg n ts) (so : SigOk sg) : Gd 3 3178 (dM n ts) := by
  have n6 := m.n6
  refine gd_mdl (by omega) (fun t ht => ⟨fun k hk => by have := m.low t ht k hk; omega, ?_⟩) (by rw [m.len]; exact so.l4)
  obtain ⟨i, hi⟩ := List.mem_iff_getElem?.mp ht
  have il : i < ts.length := (List.getElem?_eq_some_iff.mp hi).1
  have is : i < sg.length := by rw [← m.len]; exact il
  have tb := m.tab i is il
  rw [List.getElem?_eq_getElem il] at hi
  rw [← Option.some.inj hi, tb.len]
  have h1 : n ^ sg[i].2 ≤ 6 ^ sg[i].2 := Nat.pow_le_pow_left n6 _
  have h2 : 6 ^ sg[i].2 ≤ 6 ^ 2 := Nat.pow_le_pow_right (by decide) (so.pl _ (List.getElem_mem is))
  omega
theorem SigOk.gd (so : SigOk sg) : Gd 2 812 (dS sg) := gd_sig (fun p hp => ⟨fun c hc => by
    have h := (so.nm p hp).abc c hc
    have all : ∀ c ∈ letters.cps.toList, c < 0x110000 := by decide
    exact all c h, Nat.le_trans (so.nm p hp).l4 (by decide), Nat.le_trans (so.pl p hp) (by decide)⟩) so.l4
theorem Ord.gd (h : Ord n o) (n6 : n ≤ 6) : Gd 1 396 (dN o) := gd_nats (fun k hk => by have := ord_low h k hk; omega) (by rw [h.len]; omega)
end
/-! ### more readings -/
section
variable {K : PySem.W.Frag} {σ : L2.St} {H : Hp} {ta tb te : TE} {P R : V → Hp → Prop} {z : V}
end
end K22
end
section
namespace K22
open PySem PySem.Spec PyProof.Rows L2 Evl RZ Dw M20 M25
section
variable {P : Program} {w : World} {K : PySem.W.Frag} {mg : Str → Option Value} {base : Heap}
/-! ### rows of numbers -/
/-- a list of rows -/
def RowsL (K : PySem.W.Frag) (H : Hp) (v : V) (rs : List (List Nat)) : Prop := ∃ a vs, v = .ref a ∧ H a = some (.lst vs) ∧ Paired (Nats K H) vs rs
theorem RowsL.ex {H H' : Hp} {v : V} {rs : List (List Nat)} (e : Ex H H') (h : RowsL K H v rs) : RowsL K H' v rs := let ⟨a, vs, q, s, p⟩ := h; ⟨a, vs, q, e _ _ s, paired_imp (fun _ _ z => z.ex e) p⟩
theorem pairs_rows (L : List (List Nat)) (m : Nat) : ((List.range L.length).flatMap fun i => (List.range m).map fun k => (i, k)).map (fun p => L.getD p.1 [] ++ [p.2]) = L.flatMap fun r => (List.range m).map fun k => r ++ [k] := by
  rw [List.map_flatMap]
  have e : (List.range L.length).map (fun i => L.getD i []) = L := by
    apply List.ext_getElem?
    intro i
    by_cases h : i < L.length
    · rw [List.getElem?_map, List.getElem?_range h]
      show some (L.getD i []) = _
      rw [List.getD_eq_getElem?_getD, List.getElem?_eq_getElem h]
      rfl
    · rw [List.getElem?_eq_none_iff.mpr (by simp; omega), List.getElem?_eq_none_iff.mpr (by omega)]
  conv => rhs; rw [← e, List.flatMap_map]
  congr 1
  funext i
  rw [List.map_map]
  rfl
theorem rows_length (n : Nat) : ∀ p, (rows n p).length = n ^ p
  | 0 => rfl
  | p + 1 => by
    show ((rows n p).flatMap _).length = _
    rw [List.length_flatMap, Nat.pow_succ]
    have : (rows n p).map (fun r => ((List.range n).map fun k => r ++ [k]).length) = List.replicate (rows n p).length n := by
      rw [List.eq_replicate_iff]
      refine ⟨by rw [List.length_map], fun b hb => ?_⟩
      obtain ⟨r, _, rfl⟩ := List.mem_map.mp hb
      simp
    rw [this, List.sum_replicate_nat, rows_length n p]
theorem stb_nats {β : Type} (f : β → List Nat) : StbB (fun v b H => Nats K H v (f b)) := fun _ _ _ _ e h => h.et e.et
def sp_rows_below (K : PySem.W.Frag) : Sp := spX (fun (p : Nat × Nat) vs _ => vs = [vi p.1, vi p.2] ∧ p.1 ≤ 6 ∧ p.2 ≤ 2) (fun p v H => RowsL K H v (rows p.1 p.2))
theorem c_rows_below (T : Txt mg) (D : Df K mg "rows_below" s_rows_below ["size", "many"]) : Cl P w K mg base 1 "rows_below" (sp_rows_below K) := by
  refine cl_of (k := 0) D sc_rows_below (fun vs H Q E h => ?_) (fun f cdv A outer s H vs Q E hr h => ?_)
  · obtain ⟨p, ⟨rfl, _⟩, _⟩ := h
    rfl
  · obtain ⟨⟨n, m⟩, ⟨rfl, hn, hm⟩, q⟩ := h
    refine ⟨_, (pss_cons (ps_set (i := 2) sc_rows_below.nd rfl (.inl rfl) (pe_lst (pa_cons (pe_tup pa_nil) pa_nil)))
      (pss_cons (ps_for PassesOwn.never (by rfl) (pi_range1 (by rfl) T.z_range (pa_cons (pv 1) pa_nil)) (pg_name (i := 3) sc_rows_below.nd rfl (.inl rfl))
        (pss_one (ps_setLc2 (i := 2) (own := [("row", 4), ("number", 5)]) (g := (gName 4)) (g1 := (gName 5)) (vs1 := [5]) (by rfl) sc_rows_below.nd rfl rfl (sw_true rfl rfl rfl (by decide +kernel)) (pi_list (pv 2)) (blkOk_by (own := [("row", 4), ("number", 5)]) (N := ["size", "many", "rows", "step", "row", "number"]) (sc := (defScope s_rows_below)) (by decide +kernel)) (by decide) (fun _ _ _ _ _ => (pg_name (i := 4) sc_rows_below.nd rfl (.inl rfl))) (fun _ _ _ _ _ => pts_nil) (fun _ _ _ _ _ => (pi_range1 (by rfl) T.z_range (pa_cons (pv 0) pa_nil))) (fun _ _ _ _ _ => (pg_name (i := 5) sc_rows_below.nd rfl (.inl rfl))) (fun _ _ _ _ _ => pts_nil) (fun _ _ _ _ _ => (pe_op (op_catAK K) (pv 4) (pe_tup (pa_cons (pv 5) pa_nil)))))))
      (pss_one (ps_ret (pv 2))))), ?_⟩
    replace hn : n ≤ 6 := hn
    replace hm : m ≤ 2 := hm
    refine do_set (do_lst (do_cons (do_tup (do_nil ⟨Nat.zero_le _, fun r nr => do_nil ⟨by show 1 ≤ sizeLine; decide, fun f0 nf0 => ?_⟩⟩))))
    have e1 : Ex H (upd (upd H r (.tup [])) f0 (.lst [.ref r])) := (Ex.new nr).trans (Ex.new nf0)
    have hf0 : (upd (upd H r (.tup [])) f0 (.lst [.ref r])) f0 = some (.lst [.ref r]) := upd_same
    have hr0 : (upd (upd H r (.tup [])) f0 (.lst [.ref r])) r = some (.tup []) := Ex.new nf0 _ _ upd_same
    generalize upd (upd H r (.tup [])) f0 (.lst [.ref r]) = H1 at *
    refine q_forR1 (n := (m : Int)) (ea_cons (ev_var rfl) ea_nil) ⟨by omega, by omega⟩ (fun i σ H' => Ex H H' ∧ ∃ (v : V) (y3 : Option V), RowsL K H' v (rows n i) ∧ σ = [some (vi n), some (vi m), some v, y3, none, none])
      (fun H2 e2 => ⟨e1.trans e2, .ref f0, none, ⟨f0, [.ref r], rfl, e2 _ _ hf0, .cons ⟨r, rfl, st_of (e2 _ _ hr0)⟩ .nil⟩, rfl⟩) (fun i σ H2 hi ⟨e2, v, y3, hv, hσ⟩ => ?_) (fun σ H2 ⟨e2, v, y3, hv, hσ⟩ => ?_)
    · subst hσ
      obtain ⟨a, us, rfl, ha, pus⟩ := hv
      have li : us.length = n ^ i := by rw [paired_len pus, rows_length]
      have lu : us.length ≤ 10000 := by
        rw [li]
        have i1 : i ≤ 1 := by omega
        have : n ^ i ≤ n ^ 1 ∨ i = 0 := by
          rcases Nat.eq_zero_or_pos i with z | z
          · exact .inr z
          · have : i = 1 := by omega
            rw [this]; exact .inl (Nat.le_refl _)
        rcases this with z | z
        · rw [Nat.pow_one] at z; omega
        · rw [z, Nat.pow_zero]; omega
      refine s_asgLP (elp_lc2 (K := K) (ev_var rfl) (sq_of ha) (fun x H3 e3 => ea_cons (ev_var rfl) ea_nil) lu (by omega) (fun v p H' => Nats K H' v ((rows n i).getD p.1 [] ++ [p.2])) (stb_nats (K := K) _) (fun _ => rfl) (fun _ _ => rfl) (fun j x k H3 e3 hx hk => ?_)) fun p ws H3 np e3 hp hw => ⟨e2.trans e3, .ref p, _, ⟨p, ws, rfl, hp, ?_⟩, rfl⟩
      · obtain ⟨row, hrow, xa, rfl, hxa⟩ := paired_at pus hx
        have er : (rows n i).getD j [] = row := by rw [List.getD_eq_getElem?_getD, hrow]; rfl
        have lr : row.length = i := (rows_of (List.mem_iff_getElem?.mpr ⟨j, hrow⟩)).1
        rw [er]
        refine tv_nats (tv_is (tv_cat (tv_ev (ev_var rfl) (ex_t e3 hxa)) (tv_tup (ea_cons (ev_var rfl) ea_nil) (by show 1 ≤ 100000; decide)) ?_) ?_)
        · rw [List.length_map, lr]
          show i + 1 ≤ 100000
          omega
        · rw [List.map_append]
          rfl
      · rw [paired_len pus] at hw
        have := paired_map (S := Nats K H3) (f := fun p : Nat × Nat => (rows n i).getD p.1 [] ++ [p.2]) (fun _ _ z => z) hw
        rw [pairs_rows] at this
        exact this
    · subst hσ
      rw [Int.toNat_natCast] at hv
      exact s_ret (ev_var rfl) fun H3 e3 => q _ H3 (e2.trans e3) (hv.ex e3)
/-! ### what is the same for all -/
theorem tab_low {n p : Nat} {t : List Nat} (ht : Tab n p t) : ∀ k ∈ t, k < n := fun k hk => by
  obtain ⟨i, hi, e⟩ := List.mem_iff_getElem.mp hk
  have a := g_eq hi
  rw [List.getElem?_eq_getElem hi, e] at a
  rw [Option.some.inj a]
  exact ht.low i (by rw [← ht.len]; exact hi)
theorem tab_len {n p : Nat} {t : List Nat} (ht : Tab n p t) (hn : n ≤ 6) (hp : p ≤ 2) : t.length ≤ 36 := by
  rw [ht.len]
  match p, hp with
  | 0, _ => simp
  | 1, _ => rw [Nat.pow_one]; omega
  | 2, _ => rw [Nat.pow_two]; exact Nat.mul_le_mul hn hn
end
end K22
end
section
namespace K22
open PySem PySem.Spec PyProof.Rows L2 Evl RZ Dw M20 M25 CL
abbrev MArg := List (Str × Nat) × Nat × List (List Nat)
section
variable {P : Program} {w : World} {K : PySem.W.Frag} {mg : Str → Option Value} {base : Heap}
def MA (K : PySem.W.Frag) (H : Hp) (u v : V) (p : MArg) : Prop := Sig K H u p.1 ∧ Mdl K H v p.2.1 p.2.2
theorem MA.ex {H H' : Hp} {u v : V} {p : MArg} (e : Ex H H') (h : MA K H u v p) : MA K H' u v p := ⟨h.1.ex e, h.2.ex e⟩
theorem MA.et {H H' : Hp} {u v : V} {p : MArg} (e : ET K H H') (h : MA K H u v p) : MA K H' u v p := ⟨h.1.et e, h.2.et e⟩
def MOk (p : MArg) : Prop := SigOk p.1 ∧ MdlOk p.1 p.2.1 p.2.2
theorem sig_one {p : MArg} (ok : MOk p) {i j : Nat} {d e : Str × Nat} (hi : p.1[i]? = some d) (hj : p.1[j]? = some e) (h : d.1 = e.1) : i = j ∧ d = e := by
  obtain ⟨il, ed⟩ := List.getElem?_eq_some_iff.mp hi
  obtain ⟨jl, ee⟩ := List.getElem?_eq_some_iff.mp hj
  have : i = j := (List.getElem_inj (h₀ := by rw [List.length_map]; exact il) (h₁ := by rw [List.length_map]; exact jl) ok.1.nd).mp (by rw [List.getElem_map, List.getElem_map, ed, ee]; exact h)
  subst this
  exact ⟨rfl, by rw [← ed, ← ee]⟩
def tbOf : List (Str × Nat) → List (List Nat) → Str → List Nat
  | d :: sg, tb :: tbs, f => if d.1 = f then tb else tbOf sg tbs f
  | _, _, _ => []
theorem tbOf_at : ∀ {sg : List (Str × Nat)} {tbs : List (List Nat)} {f : Str} {i : Nat} (h1 : i < sg.length) (h2 : i < tbs.length), sg[i].1 = f → (∀ j (h : j < sg.length), j < i → sg[j].1 ≠ f) → tbOf sg tbs f = tbs[i]
  | d :: sg, tb :: tbs, f, 0, _, _, e, _ => by
    rw [tbOf, if_pos (show d.1 = f from e)]
    rfl
  | d :: sg, tb :: tbs, f, i + 1, h1, h2, e, no => by
    rw [tbOf, if_neg (show ¬ d.1 = f from no 0 (Nat.zero_lt_succ _) (Nat.zero_lt_succ _))]
    exact tbOf_at (sg := sg) (tbs := tbs) (i := i) (Nat.lt_of_succ_lt_succ h1) (Nat.lt_of_succ_lt_succ h2) e fun j h lt => no (j + 1) (Nat.succ_lt_succ h) (Nat.succ_lt_succ lt)
theorem tbOf_sig {p2 : MArg} {p : MArg} (ok : MOk p) (ok2 : MOk p2) (es : p2.1 = p.1) {i : Nat} {d : Str × Nat} (hi : p.1[i]? = some d) : ∃ h : i < p2.2.2.length, tbOf p.1 p2.2.2 d.1 = p2.2.2[i] ∧ Tab p2.2.1 d.2 p2.2.2[i] := by
  obtain ⟨il, ed⟩ := List.getElem?_eq_some_iff.mp hi
  have il2 : i < p2.2.2.length := by rw [ok2.2.len, es]; exact il
  have il3 : i < p2.1.length := by rw [es]; exact il
  refine ⟨il2, ?_, ?_⟩
  · refine tbOf_at il il2 (by rw [ed]) fun j h lt e => ?_
    have := (sig_one ok (List.getElem?_eq_getElem h) hi e).1
    omega
  · have := ok2.2.tab i il3 il2
    rw [show p2.1[i] = d from by rw [← ed]; simp only [es]] at this
    exact this
def sp_table_of (K : PySem.W.Frag) : Sp := spX (fun (p : List (Str × Nat) × Nat × List (List Nat) × Str × Nat) vs H => (∃ u v, vs = [u, v, .str p.2.2.2.1] ∧ Sig K H u p.1 ∧ Tabs K H v p.2.2.1) ∧ p.2.2.1.length = p.1.length ∧ (p.2.2.2.1, p.2.2.2.2) ∈ p.1) (fun p v H => Nats K H v (tbOf p.1 p.2.2.1 p.2.2.2.1))
theorem c_table_of (T : Txt mg) (D : Df K mg "table_of" s_table_of ["signature", "tables", "name"]) : Cl P w K mg base 1 "table_of" (sp_table_of K) := by
  refine cl_of (k := 0) D sc_table_of (fun vs H Q E h => ?_) (fun f cdv A outer s H vs Q E hr h => ?_)
  · obtain ⟨p, ⟨⟨u, v, rfl, _⟩, _⟩, _⟩ := h
    rfl
  · obtain ⟨⟨sg, n, tbs, f, k⟩, ⟨⟨u, v, rfl, hG, hT⟩, lM, mem⟩, q⟩ := h
    refine ⟨_, (pss_cons (ps_for PassesOwn.never (by rfl) (pi_zipA (by rfl) T.z_zip (pa_cons (pv 0) (pa_cons (pv 1) pa_nil))) (pg_tup (by rfl) (pgs_cons (pg_name (i := 3) sc_table_of.nd rfl (.inl rfl)) (pgs_cons (pg_name (i := 4) sc_table_of.nd rfl (.inl rfl)) pgs_nil)))
        (pss_one (ps_if (pt_cmpR op_eq (pe_ix ix_tup (pv 3) pe_int (fun _ _ => rfl)) (pv 2) (nomark _))
          (pss_one (ps_ret (pv 4)))
          pss_nil)))
      (pss_one (ps_ret pe_non))), ?_⟩
    replace lM : tbs.length = sg.length := lM
    replace mem : (f, k) ∈ sg := mem
    obtain ⟨a, us, rfl, hS, hP⟩ := id hG
    obtain ⟨b, tvs, rfl, hB, hR⟩ := id hT
    replace hP : Paired (Deed K H) us sg := hP
    replace hR : Paired (Nats K H) tvs tbs := hR
    have lS : us.length = sg.length := paired_len hP
    have lT : tvs.length = tbs.length := paired_len hR
    refine q_zipT (ea_cons (ev_var rfl) (ea_cons (ev_var rfl) ea_nil)) hS hB (by rw [lS, lT, lM]) (fun i σ H' => Ex H H' ∧ (∀ j (h : j < sg.length), j < i → sg[j].1 ≠ f) ∧ ∃ y3 y4, σ = [some (.ref a), some (.ref b), some (.str f), y3, y4])
      (fun H2 e2 => ⟨e2, fun j _ z => absurd z (Nat.not_lt_zero _), none, none, rfl⟩) (fun i σ H' _ ⟨e, _⟩ => ⟨ex_t e hS, ex_t e hB⟩) (fun i d tv p σ H2 hd ht hPv np => ?_) (fun σ H2 hPv => ?_)
    · obtain ⟨e2, no, y3, y4, hσ⟩ := hPv
      subst hσ
      have hi : i < sg.length := by rw [← lS]; exact (List.getElem?_eq_some_iff.mp hd).1
      have hi2 : i < tbs.length := by rw [lM]; exact hi
      obtain ⟨d', ed', c, hc, dc⟩ := paired_get hP (List.getElem?_eq_getElem hi)
      have : d' = d := Option.some.inj (ed'.symm.trans hd)
      subst this
      subst hc
      obtain ⟨t', et', nt⟩ := paired_get hR (List.getElem?_eq_getElem hi2)
      have : t' = tv := Option.some.inj (et'.symm.trans ht)
      subst this
      have e3 : Ex H2 (upd H2 p (.tup [.ref c, t'])) := Ex.new np
      have e03 : Ex H (upd H2 p (.tup [.ref c, t'])) := e2.trans e3
      refine ⟨p, _, rfl, st_of upd_same, rfl, _, _, rfl, _, _, rfl, rfl, ?_⟩
      show tIfS _ _ _ _ [some (.ref a), some (.ref b), some (.str f), some (.ref c), some t'] (upd H2 p (.tup [.ref c, t']))
      refine s_when (et_test (ev_op (ev_op (ev_var rfl) ev_c (rv_ixT (K := K) (ex_t e03 dc) (atI_vi (k := 0) rfl))) (ev_var rfl) (rv_eq rfl))) (fun hb H4 e4 => ?_) (fun hb H4 e4 => ?_)
      · have isF : sg[i].1 = f := V.str.inj (of_decide_eq_true hb)
        refine s_ret (ev_var rfl) fun H5 e5 => q _ H5 (e03.trans (e4.trans e5)) ?_
        show Nats K H5 t' (tbOf sg tbs f)
        rw [tbOf_at hi hi2 isF no]
        exact nt.ex (e03.trans (e4.trans e5))
      · have notF : sg[i].1 ≠ f := fun z => by
          rw [z] at hb
          exact absurd rfl (of_decide_eq_false hb)
        refine ⟨e03.trans e4, fun j h lt => ?_, _, _, rfl⟩
        by_cases e : j < i
        · exact no j h e
        · have : j = i := by omega
          subst this
          exact notF
    · obtain ⟨e2, no, y3, y4, hσ⟩ := hPv
      obtain ⟨i, hi⟩ := List.mem_iff_getElem?.mp mem
      have il : i < sg.length := (List.getElem?_eq_some_iff.mp hi).1
      rw [List.getElem?_eq_getElem il] at hi
      exact absurd (by rw [Option.some.inj hi]) (no i il (by rw [lS]; exact il))
def sp_need_two (K : PySem.W.Frag) : Sp := spX (fun (p : MArg × MArg) vs H => (∃ u v w, vs = [u, v, w] ∧ MA K H u v p.1 ∧ Mdl K H w p.2.2.1 p.2.2.2) ∧ MOk p.1 ∧ MOk p.2 ∧ p.2.1 = p.1.1) (fun _ v _ => v = .non)
theorem c_need_two_models (T : Txt mg) (D : Df K mg "need_two_models" s_need_two_models ["signature", "one", "other"]) (c_need_model : Cl P w K mg base 7 "need_model" (sp_need_model K)) : Cl P w K mg base 8 "need_two_models" (sp_need_two K) := by
  refine cl_of (k := 7) D sc_need_two_models (fun vs H Q E h => ?_) (fun f cdv A outer s H vs Q E hr h => ?_)
  · obtain ⟨p, ⟨⟨u, v, w, rfl, _⟩, _⟩, _⟩ := h
    rfl
  · obtain ⟨⟨p, p2⟩, ⟨⟨u, v, w, rfl, hm, hw⟩, ok, ok2, es⟩, q⟩ := h
    refine ⟨_, (pss_cons (ps_expr (pe_cl c_need_model hr (by first | decide | omega) (by rfl) (pa_cons (pv 0) (pa_cons (pv 1) pa_nil))))
      (pss_one (ps_expr (pe_cl c_need_model hr (by first | decide | omega) (by rfl) (pa_cons (pv 0) (pa_cons (pv 2) pa_nil)))))), ?_⟩
    replace hm : MA K H u v p := hm
    replace es : p2.1 = p.1 := es
    refine q_drop (v := .non) (ev_callV p (ea_cons (ev_var rfl) (ea_cons (ev_var rfl) ea_nil)) (fun H1 e1 => ⟨⟨_, _, rfl, hm.1.ex e1, hm.2.ex e1⟩, ok.1, ok.2⟩) (fun _ _ p => p)) fun H1 e1 => ?_
    exact s_drop (v := .non) (ev_callV p2 (ea_cons (ev_var rfl) (ea_cons (ev_var rfl) ea_nil)) (fun H2 e2 => ⟨⟨_, _, rfl, by rw [es]; exact hm.1.ex (e1.trans e2), hw.ex (e1.trans e2)⟩, ok2.1, ok2.2⟩) (fun _ _ p => p)) fun H2 e2 => q _ H2 (e1.trans e2) rfl
def sp_place_of_row (K : PySem.W.Frag) : Sp := spX (fun (p : Nat × List Nat) vs H => (∃ l, vs = [vi p.1, .ref l] ∧ H l = some (.lst (p.2.map vi))) ∧ p.1 ≤ 6 ∧ p.2.length ≤ 2 ∧ ∀ k ∈ p.2, k < p.1) (fun p v _ => v = vi (plc p.1 p.2))
theorem c_place_of_row (T : Txt mg) (D : Df K mg "place_of_row" s_place_of_row ["size", "row"]) : Cl P w K mg base 1 "place_of_row" (sp_place_of_row K) := by
  refine cl_of (k := 0) D sc_place_of_row (fun vs H Q E h => ?_) (fun f cdv A outer s H vs Q E hr h => ?_)
  · obtain ⟨p, ⟨⟨l, rfl, _⟩, _⟩, _⟩ := h
    rfl
  · obtain ⟨⟨n, ns⟩, ⟨⟨l, rfl, hl⟩, n6, l2, low⟩, q⟩ := h
    refine ⟨_, (pss_cons (ps_set (i := 2) sc_place_of_row.nd rfl (.inl rfl) pe_int)
      (pss_cons (ps_for PassesOwn.never (by rfl) (pi_list (pv 1)) (pg_name (i := 3) sc_place_of_row.nd rfl (.inl rfl))
        (pss_one (ps_set (i := 2) sc_place_of_row.nd rfl (.inl rfl) (pe_op op_add (pe_op op_mul (pv 2) (pv 0)) (pv 3)))))
      (pss_one (ps_ret (pv 2))))), ?_⟩
    replace hl : H l = some (.lst (ns.map vi)) := hl
    replace n6 : n ≤ 6 := n6
    replace l2 : ns.length ≤ 2 := l2
    replace low : ∀ k ∈ ns, k < n := low
    refine q_asg (v := vi 0) ev_c fun H1 e1 => ?_
    refine q_forL (K := K) (ev_var rfl) (sq_of (e1 _ _ hl)) (fun i σ H' => Ex H H' ∧ ∃ y : Option V, σ = [some (vi n), some (.ref l), some (vi (plc n (ns.take i))), y]) (fun H2 e2 => ⟨e1.trans e2, none, rfl⟩) (fun i σ H' _ ⟨e, _⟩ => sq_of (e _ _ hl)) (fun i x σ H2 hx hP => ?_) (fun σ H2 hP => ?_)
    · obtain ⟨e2, y, hσ⟩ := hP
      subst hσ
      rw [List.getElem?_map] at hx
      cases hk : ns[i]? with
      | none =>
        rw [hk] at hx
        cases hx
      | some k =>
        rw [hk] at hx
        cases Option.some.inj hx
        have small : plc n (ns.take i) ≤ 1000 := by
          have a := plc_low (n := n) (ns := ns.take i) (fun k h => low k (List.mem_of_mem_take h)) (by rw [List.length_take]; omega)
          have b : n ^ (ns.take i).length ≤ 6 ^ (ns.take i).length := Nat.pow_le_pow_left n6 _
          have c : 6 ^ (ns.take i).length ≤ 6 ^ 2 := Nat.pow_le_pow_right (by decide) (by rw [List.length_take]; omega)
          omega
        refine s_asg (v := vi (plc n (ns.take (i + 1)))) (ev_is (ev_addN (ev_mulN (ev_var rfl) (ev_var rfl) small (by omega)) (ev_var rfl)) (by rw [plc_take hk])) fun H3 e3 => ?_
        exact ⟨e2.trans e3, _, rfl⟩
    · obtain ⟨e2, y, hσ⟩ := hP
      subst hσ
      rw [List.length_map, List.take_length]
      exact s_ret (ev_var rfl) fun H3 e3 => q _ H3 (e2.trans e3) rfl
def sp_place_T (K : PySem.W.Frag) : Sp := spX (fun (p : Nat × List Nat) vs H => (∃ v, vs = [vi p.1, v] ∧ Nats K H v p.2) ∧ p.1 ≤ 6 ∧ p.2.length ≤ 2 ∧ ∀ k ∈ p.2, k < p.1) (fun p v _ => v = vi (plc p.1 p.2))
theorem c_place_of_rowT (T : Txt mg) (D : Df K mg "place_of_row" s_place_of_row ["size", "row"]) : Cl P w K mg base 1 "place_of_row" (sp_place_T K) := by
  refine cl_of (k := 0) D sc_place_of_row (fun vs H Q E h => ?_) (fun f cdv A outer s H vs Q E hr h => ?_)
  · obtain ⟨p, ⟨⟨l, rfl, _⟩, _⟩, _⟩ := h
    rfl
  · obtain ⟨⟨n, ns⟩, ⟨⟨v, rfl, ⟨l, rfl, hl⟩⟩, n6, l2, low⟩, q⟩ := h
    refine ⟨_, (pss_cons (ps_set (i := 2) sc_place_of_row.nd rfl (.inl rfl) pe_int)
      (pss_cons (ps_for PassesOwn.never (by rfl) (pi_tup (pv 1)) (pg_name (i := 3) sc_place_of_row.nd rfl (.inl rfl))
        (pss_one (ps_set (i := 2) sc_place_of_row.nd rfl (.inl rfl) (pe_op op_add (pe_op op_mul (pv 2) (pv 0)) (pv 3)))))
      (pss_one (ps_ret (pv 2))))), ?_⟩
    replace hl : SqT K H l (ns.map vi) := hl
    replace n6 : n ≤ 6 := n6
    replace l2 : ns.length ≤ 2 := l2
    replace low : ∀ k ∈ ns, k < n := low
    refine q_asg (v := vi 0) ev_c fun H1 e1 => ?_
    refine q_forT (K := K) (ev_var rfl) (ex_t e1 hl) (fun i σ H' => Ex H H' ∧ ∃ y : Option V, σ = [some (vi n), some (.ref l), some (vi (plc n (ns.take i))), y]) (fun H2 e2 => ⟨e1.trans e2, none, rfl⟩) (fun i σ H' _ ⟨e, _⟩ => ex_t e hl) (fun i x σ H2 hx hP => ?_) (fun σ H2 hP => ?_)
    · obtain ⟨e2, y, hσ⟩ := hP
      subst hσ
      rw [List.getElem?_map] at hx
      cases hk : ns[i]? with
      | none =>
        rw [hk] at hx
        cases hx
      | some k =>
        rw [hk] at hx
        cases Option.some.inj hx
        have small : plc n (ns.take i) ≤ 1000 := by
          have a := plc_low (n := n) (ns := ns.take i) (fun k h => low k (List.mem_of_mem_take h)) (by rw [List.length_take]; omega)
          have b := pow_small' (p := (ns.take i).length) n6 (by rw [List.length_take]; omega)
          omega
        refine s_asg (v := vi (plc n (ns.take (i + 1)))) (ev_is (ev_addN (ev_mulN (ev_var rfl) (ev_var rfl) small (by omega)) (ev_var rfl)) (by rw [plc_take hk])) fun H3 e3 => ?_
        exact ⟨e2.trans e3, _, rfl⟩
    · obtain ⟨e2, y, hσ⟩ := hP
      subst hσ
      rw [List.length_map, List.take_length]
      exact s_ret (ev_var rfl) fun H3 e3 => q _ H3 (e2.trans e3) rfl
def sp_is_row (K : PySem.W.Frag) : Sp := spX (fun (p : Nat × List Nat) vs H => (∃ v, vs = [v, vi p.2.length, vi p.1] ∧ Nats K H v p.2) ∧ (∀ k ∈ p.2, k < p.1) ∧ p.2.length ≤ 1000) (fun _ v _ => v = .bl true)
theorem c_is_row (T : Txt mg) (D : Df K mg "is_row" s_is_row ["thing", "many", "size"]) (c_is_below : Cl P w K mg base 2 "is_below" sp_is_below) : Cl P w K mg base 3 "is_row" (sp_is_row K) := by
  refine cl_of (k := 2) D sc_is_row (fun vs H Q E h => ?_) (fun f cdv A outer s H vs Q E hr h => ?_)
  · obtain ⟨p, ⟨⟨v, rfl, _⟩, _⟩, _⟩ := h
    rfl
  · obtain ⟨⟨n, ns⟩, ⟨⟨v, rfl, a, rfl, ha⟩, low, few⟩, q⟩ := h
    refine ⟨_, (pss_one (ps_ret (pe_and (pe_callB call_isi (by rfl) T.z_isinstance (by decide +kernel) (pa_cons (pv 0) (pa_cons (pe_ty "tuple" (by rfl) T.z_tuple (by decide +kernel)) pa_nil))) (pe_and (pe_cmpR op_eq (pe_callB call_len_seq (by rfl) T.z_len PySem.boot_len (pa_cons (pv 0) pa_nil)) (pv 1) (nomark _)) (pe_one (pe_callB (cr_all rfl) (by rfl) T.z_all (by decide +kernel) (pa_cons (pe_lc (own := [("number", 3)]) (g := (gName 3)) (by rfl) sc_is_row.nd (pi_tup (pv 0)) (blkOk_by (own := [("number", 3)]) (N := ["thing", "many", "size", "number"]) (sc := (defScope s_is_row)) (by decide +kernel)) (fun _ _ _ _ _ => (pg_name (i := 3) sc_is_row.nd rfl (.inl rfl))) (fun _ _ _ _ _ => pts_nil) (fun _ _ _ _ _ => (pe_cl c_is_below hr (by first | decide | omega) (by rfl) (pa_cons (pv 3) (pa_cons (pv 2) pa_nil))))) pa_nil))))))), ?_⟩
    replace ha : SqT K H a (ns.map vi) := ha
    replace low : ∀ k ∈ ns, k < n := low
    replace few : ns.length ≤ 1000 := few
    refine s_ret (v := .bl true) (ev_is (ev_andV (a := true) (ev_isi (ev_var rfl) ev_c (.ty _) (fun _ e => tyx_tup (ex_t e ha)) kit_tt) (fun _ => ev_andV (ev_op (ev_lenT (ev_var rfl) ha) (ev_var rfl) (rv_eq rfl)) (fun _ => ev_all (bs := List.replicate ns.length true) ?_))) ?_) fun H1 e1 => q _ H1 e1 rfl
    · have z := el_lcT (K := K) (tl := tVar 0) (te := tCall sp_is_below [] E0 (tCons (tVar 3) (tCons (tVar 2) tNil))) (σ := [some (.ref a), some (vi ns.length), some (vi n), none]) (j := 3) (vs := [3]) (ev_var rfl) ha (fun _ => V.bl true) (by rw [List.length_map]; omega) (fun _ => rfl) (fun i x H1 e1 hx => by
        rw [List.getElem?_map] at hx
        cases hk : ns[i]? with
        | none =>
          rw [hk] at hx
          cases hx
        | some k =>
          rw [hk] at hx
          cases Option.some.inj hx
          have lk := low k (List.mem_iff_getElem?.mpr ⟨i, hk⟩)
          exact ev_callV (v := .bl true) (((k : Nat) : Int), ((n : Nat) : Int)) (ea_cons (ev_var rfl) (ea_cons (ev_var rfl) ea_nil)) (fun _ _ => ⟨rfl, by show (0 : Int) ≤ (k : Int); omega, by show (k : Int) < (n : Int); omega⟩) (fun _ _ p => p))
      have e : (List.range (ns.map vi).length).map (fun _ => V.bl true) = (List.replicate ns.length true).map V.bl := by
        rw [List.length_map, List.map_replicate, List.map_const', List.length_range]
      rw [e] at z
      exact z
    · rw [List.length_map]
      simp
end
end K22
end
section
namespace K22
open PySem PySem.Spec PyProof.Rows L2 Evl RZ Dw M20 M25 CL LK
/-- two models of one size, by names -/
def sysOf (p p2 : MArg) : Sys Str := ⟨p.1, p.2.1, tbOf p.1 p.2.2, tbOf p.1 p2.2.2⟩
structure Two (p p2 : MArg) : Prop where
  ok : MOk p
  ok2 : MOk p2
  es : p2.1 = p.1
  en : p2.2.1 = p.2.1
theorem Two.sys {p p2 : MArg} (t : Two p p2) : (sysOf p p2).Ok := by
  refine ⟨t.ok.2.n1, t.ok.1.pl, fun d hd => ?_, fun d hd => ?_⟩
  · obtain ⟨i, hi⟩ := List.mem_iff_getElem?.mp hd
    obtain ⟨h, e, tb⟩ := tbOf_sig t.ok t.ok rfl hi
    show Tab p.2.1 d.2 (tbOf p.1 p.2.2 d.1)
    rw [e]
    exact tb
  · obtain ⟨i, hi⟩ := List.mem_iff_getElem?.mp hd
    obtain ⟨h, e, tb⟩ := tbOf_sig t.ok t.ok2 t.es hi
    show Tab p.2.1 d.2 (tbOf p.1 p2.2.2 d.1)
    rw [e, ← t.en]
    exact tb
section
variable {K : PySem.W.Frag} {σ : L2.St} {H : Hp} {ta tb te : TE}
theorem ev_ixNP {t : List Nat} {k : Nat} (ha : EvP ta σ H (fun v H' => Nats K H' v t)) (hb : Ev tb σ H (vi k)) (lt : k < t.length) : Ev (tOp (rIxT K) ta tb) σ H (vi (g t k)) := fun H1 e Q q =>
  do_op (ha H1 e _ fun v H2 e2 hv => hb H2 (e.trans e2) _ fun H3 e3 => by
    obtain ⟨a, ev, sa⟩ := hv.ex e3
    subst ev
    exact ⟨a, t.map vi, (k : Int), vi (g t k), rfl, rfl, sa, atI_vi (vi_get lt), q H3 (e2.trans e3)⟩)
theorem el_getT {i j k : Nat} {row S : List Nat} {xa a : Addr} (hw : ∀ x, wipe ((wipe σ [j]).set j (some x)) [j] = wipe σ [j]) (hi : σ[i]? = some (some (.ref xa))) (hk : ∀ x, ((wipe σ [j]).set j (some x))[k]? = some (some (.ref a))) (hj : ∀ x, ((wipe σ [j]).set j (some x))[j]? = some (some x))
    (hxa : SqT K H xa (row.map vi)) (ha : SqT K H a (S.map vi)) (rl : ∀ x ∈ row, x < S.length) (l : row.length ≤ 1000) : EvL (tLc (iTup K (tVar i)) (gName j) tYes (tOp (rIxT K) (tVar k) (tVar j)) [j]) σ H ((row.map (M20.g S)).map vi) := by
  have zz := el_lcT (K := K) (tl := tVar i) (te := tOp (rIxT K) (tVar k) (tVar j)) (σ := σ) (j := j) (vs := [j]) (ev_var hi) hxa (fun q => vi (M20.g S (row.getD q 0))) (by rw [List.length_map]; omega) hw (fun q y H7 e7 hy => by
    rw [List.getElem?_map] at hy
    cases hq : row[q]? with
    | none => rw [hq] at hy; cases hy
    | some kk =>
      rw [hq] at hy
      cases Option.some.inj hy
      have lk := rl kk (List.mem_iff_getElem?.mpr ⟨q, hq⟩)
      rw [List.getD_eq_getElem?_getD, hq]
      exact ev_op (ev_var (hk _)) (ev_var (hj _)) (rv_ixT (K := K) (ex_t e7 ha) (atI_vi (k := kk) (by rw [List.getElem?_map, M20.g_eq lk]; rfl))))
  have e : (List.range (row.map vi).length).map (fun q => vi (M20.g S (row.getD q 0))) = (row.map (M20.g S)).map vi := by
    conv => rhs; rw [← range_getD 0 row]
    rw [List.length_map, List.map_map, List.map_map]
    rfl
  rw [e] at zz
  exact zz
theorem ev_lenN {a : Addr} {F : List Nat} (ha : Ev ta σ H (.ref a)) (h : SqT K H a (F.map vi)) : Ev (tCB (rLenS K) (tCons ta tNil)) σ H (vi F.length) := ev_is (ev_lenT ha h) (by rw [List.length_map])
theorem ev_ltM {a b : Nat} (ha : Ev ta σ H (vi a)) (hb : Ev tb σ H (vi b)) : Ev (tOp (rI0 fun i j => .bl (decide (i < j))) ta tb) σ H (.bl (decide (a < b))) := ev_is (ev_op ha hb rv_I0) (by congr 1; exact decide_eq_decide.mpr Int.ofNat_lt)
theorem vi_eq {a b : Nat} : decide (vi a = vi b) = decide (a = b) := decide_eq_decide.mpr ⟨fun z => Int.ofNat.inj (V.int.inj z), fun z => by rw [z]⟩
end
/-- what is asked of images and a cell -/
structure CArg where
  p : MArg
  p2 : MArg
  F : List Nat
  nm : Str
  k : Nat
  r : List Nat
def CArg.Ok (x : CArg) : Prop := Two x.p x.p2 ∧ Bg x.p.2.1 x.F.length x.F ∧ (x.nm, x.k) ∈ x.p.1 ∧ x.r ∈ rows x.F.length x.k
section
variable {P : Program} {w : World} {K : PySem.W.Frag} {mg : Str → Option Value} {base : Heap}
def sp_clashes (K : PySem.W.Frag) : Sp := spX (fun (x : CArg) vs H => (∃ u v w f y, vs = [u, v, w, f, .str x.nm, y] ∧ MA K H u v x.p ∧ Mdl K H w x.p2.2.1 x.p2.2.2 ∧ Nats K H f x.F ∧ Nats K H y x.r) ∧ x.Ok) (fun x v _ => v = .bl (bad (sysOf x.p x.p2) x.F (x.nm, x.r)))
theorem c_clashes (T : Txt mg) (D : Df K mg "clashes" s_clashes ["signature", "one", "other", "images", "name", "numbers"]) (c_table_of : Cl P w K mg base 1 "table_of" (sp_table_of K)) (c_place_of_row : Cl P w K mg base 1 "place_of_row" (sp_place_of_row K)) (c_place_of_rowT : Cl P w K mg base 1 "place_of_row" (sp_place_T K)) : Cl P w K mg base 2 "clashes" (sp_clashes K) := by
  refine cl_of (k := 1) D sc_clashes (fun vs H Q E h => ?_) (fun f cdv A outer s H vs Q E hr h => ?_)
  · obtain ⟨p, ⟨⟨u, v, w, f, y, rfl, _⟩, _⟩, _⟩ := h
    rfl
  · obtain ⟨⟨p, p2, F, nm, k, r⟩, ⟨⟨u, v, w, f, y, rfl, hm, hw, hf, hy⟩, tw, hF, mem, hr0⟩, q⟩ := h
    refine ⟨_, (pss_cons (ps_set (i := 6) sc_clashes.nd rfl (.inl rfl) (pe_ix ix_tup (pv 1) pe_int (fun _ _ => rfl)))
      (pss_cons (ps_set (i := 7) sc_clashes.nd rfl (.inl rfl) (pe_ix ix_tup (pe_cl c_table_of hr (by first | decide | omega) (by rfl) (pa_cons (pv 0) (pa_cons (pe_ix ix_tup (pv 1) pe_int (fun _ _ => rfl)) (pa_cons (pv 4) pa_nil)))) (pe_cl c_place_of_rowT hr (by first | decide | omega) (by rfl) (pa_cons (pv 6) (pa_cons (pv 5) pa_nil))) (fun _ _ => rfl)))
      (pss_cons (ps_setLc (i := 8) (own := [("number", 10)]) (g := (gName 10)) (by rfl) sc_clashes.nd rfl rfl (sw_true rfl rfl rfl (by decide +kernel)) (pi_tup (pv 5)) (blkOk_by (own := [("number", 10)]) (N := ["signature", "one", "other", "images", "name", "numbers", "size", "worth", "called", "there", "number"]) (sc := (defScope s_clashes)) (by decide +kernel)) (fun _ _ _ _ _ => (pg_name (i := 10) sc_clashes.nd rfl (.inl rfl))) (fun _ _ _ _ _ => pts_nil) (fun _ _ _ _ _ => (pe_ix (ix_tupK K) (pv 3) (pv 10) (fun _ _ => rfl))))
      (pss_cons (ps_set (i := 9) sc_clashes.nd rfl (.inl rfl) (pe_ix ix_tup (pe_cl c_table_of hr (by first | decide | omega) (by rfl) (pa_cons (pv 0) (pa_cons (pe_ix ix_tup (pv 2) pe_int (fun _ _ => rfl)) (pa_cons (pv 4) pa_nil)))) (pe_cl c_place_of_row hr (by first | decide | omega) (by rfl) (pa_cons (pv 6) (pa_cons (pv 8) pa_nil))) (fun _ _ => rfl)))
      (pss_cons (ps_if (pt_cmpR op_lt (pv 7) (pe_callB call_len_seq (by rfl) T.z_len PySem.boot_len (pa_cons (pv 3) pa_nil)) (nomark _))
        (pss_one (ps_ret (pe_cmpR op_ne (pe_ix ix_tup (pv 3) (pv 7) (fun _ _ => rfl)) (pv 9) (nomark _))))
        pss_nil)
      (pss_one (ps_ret (pe_cmpR op_in_seq (pv 9) (pv 3) (by rfl))))))))), ?_⟩
    replace hm : MA K H u v p := hm
    replace hw : Mdl K H w p2.2.1 p2.2.2 := hw
    replace hf : Nats K H f F := hf
    replace hy : Nats K H y r := hy
    replace tw : Two p p2 := tw
    replace hF : Bg p.2.1 F.length F := hF
    replace mem : (nm, k) ∈ p.1 := mem
    replace hr0 : r ∈ rows F.length k := hr0
    obtain ⟨va, vt, rfl, hva, hvt⟩ := id hm.2
    obtain ⟨wa, wt, rfl, hwa, hwt⟩ := id hw
    obtain ⟨fa, rfl, hfa⟩ := id hf
    obtain ⟨ya, rfl, hya⟩ := id hy
    have n1 := tw.ok.2.n1
    have n6 := tw.ok.2.n6
    have k2 : k ≤ 2 := tw.ok.1.pl _ mem
    obtain ⟨lr, rl⟩ := rows_of hr0
    have leF := hF.le
    have sok := tw.sys
    have tba := sok.a _ mem
    have tbb := sok.b _ mem
    replace tba : Tab p.2.1 k (tbOf p.1 p.2.2 nm) := tba
    replace tbb : Tab p.2.1 k (tbOf p.1 p2.2.2 nm) := tbb
    have rn : ∀ x ∈ r, x < p.2.1 := fun x hx => Nat.lt_of_lt_of_le (rl x hx) leF
    have rF : ∀ x ∈ r.map (g F), x < p.2.1 := fun x hx => by
      obtain ⟨z, hz, rfl⟩ := List.mem_map.mp hx
      exact hF.low _ (M25.g_mem (rl z hz))
    have l1 : plc p.2.1 r < (tbOf p.1 p.2.2 nm).length := by
      rw [tba.len, ← lr]
      exact plc_low rn (by omega)
    have l2 : plc p.2.1 (r.map (g F)) < (tbOf p.1 p2.2.2 nm).length := by
      have := plc_low rF (by rw [List.length_map]; omega)
      rw [List.length_map, lr] at this
      rw [tbb.len]
      exact this
    refine q_asg (v := vi p.2.1) (ev_op (ev_var rfl) ev_c (rv_ixT (K := K) hva (atI_vi (k := 0) rfl))) fun H1 e1 => ?_
    refine q_asg (v := vi (g (tbOf p.1 p.2.2 nm) (plc p.2.1 r))) (ev_ixNP (K := K) (ep_call (p.1, p.2.1, p.2.2, nm, k) (ea_cons (ev_var rfl) (ea_cons (ev_op (ev_var rfl) ev_c (rv_ixT (K := K) (ex_t e1 hva) (atI_vi (k := 1) rfl))) (ea_cons (ev_var rfl) ea_nil))) fun H2 e2 => ⟨⟨_, _, rfl, hm.1.ex (e1.trans e2), hvt.ex (e1.trans e2)⟩, tw.ok.2.len, mem⟩) (ev_callV (p.2.1, r) (ea_cons (ev_var rfl) (ea_cons (ev_var rfl) ea_nil)) (fun H2 e2 => ⟨⟨_, rfl, hy.ex (e1.trans e2)⟩, n6, by show r.length ≤ 2; omega, rn⟩) (fun _ _ z => z)) l1) fun H2 e2 => ?_
    have e02 := e1.trans e2
    refine q_asgL (el_getT (K := K) (row := r) (S := F) (fun _ => rfl) rfl (fun _ => rfl) (fun _ => rfl) (ex_t e02 hya) (ex_t e02 hfa) rl (by omega)) fun l H3 nl e3 hl => ?_
    have e03 := e02.trans e3
    refine q_asg (v := vi (g (tbOf p.1 p2.2.2 nm) (plc p.2.1 (r.map (g F))))) (ev_ixNP (K := K) (ep_call (p.1, p.2.1, p2.2.2, nm, k) (ea_cons (ev_var rfl) (ea_cons (ev_op (ev_var rfl) ev_c (rv_ixT (K := K) (ex_t e03 hwa) (atI_vi (k := 1) rfl))) (ea_cons (ev_var rfl) ea_nil))) fun H4 e4 => ⟨⟨_, _, rfl, hm.1.ex (e03.trans e4), hwt.ex (e03.trans e4)⟩, by show p2.2.2.length = p.1.length; rw [tw.ok2.2.len, tw.es], mem⟩) (ev_callV (p.2.1, r.map (g F)) (ea_cons (ev_var rfl) (ea_cons (ev_var rfl) ea_nil)) (fun H4 e4 => ⟨⟨_, rfl, e4 _ _ hl⟩, n6, by show (r.map (g F)).length ≤ 2; rw [List.length_map]; omega, rF⟩) (fun _ _ z => z)) l2) fun H4 e4 => ?_
    have e04 := e03.trans e4
    refine q_when (b := decide (g (tbOf p.1 p.2.2 nm) (plc p.2.1 r) < F.length)) (et_test (ev_ltM (ev_var rfl) (ev_lenN (K := K) (ev_var rfl) (ex_t e04 hfa)))) (fun hb H5 e5 => ?_) (fun hb H5 e5 => ?_)
    · have lt := of_decide_eq_true hb
      refine s_ret (ev_op (ev_ixN (K := K) (ev_var rfl) (ev_var rfl) (ex_t (e04.trans e5) hfa) lt) (ev_var rfl) (rv_ne rfl)) fun H6 e6 => q _ H6 ((e04.trans e5).trans e6) ?_
      show V.bl (!decide (vi _ = vi _)) = V.bl (clsh p.2.1 (tbOf p.1 p.2.2 nm) (tbOf p.1 p2.2.2 nm) F r)
      unfold clsh
      rw [if_pos lt, vi_eq]
    · have lt := of_decide_eq_false hb
      refine s_ret (ev_op (ev_var rfl) (ev_var rfl) (rv_isT (K := K) (ex_t (e04.trans e5) hfa) rfl (flat_vi F))) fun H6 e6 => q _ H6 ((e04.trans e5).trans e6) ?_
      rw [inV_vi]
      show V.bl _ = V.bl (clsh p.2.1 (tbOf p.1 p.2.2 nm) (tbOf p.1 p2.2.2 nm) F r)
      unfold clsh
      rw [if_neg lt]
end
end K22
end
section
namespace K22
open PySem PySem.Spec PyProof.Rows L2 Evl RZ Dw M20 M25 CL LK
/-! ### trees at their places -/
/-- a tree, and the lists in it -/
inductive TrV (K : PySem.W.Frag) (H : Hp) : List Addr → V → PT Str → Prop where
  | clash {p : Addr} {y : V} {nm : Str} {r : List Nat} : SqT K H p [.str "clash", .str nm, y] → Nats K H y r → TrV K H [] (.ref p) (.clash nm r)
  | case {p a : Addr} {vs : List V} {ks : List (PT Str)} {AS : List (List Addr)} : SqT K H p [.str "case", .ref a] → H a = some (.lst vs) → AS.length = ks.length → vs.length = ks.length → (∀ (i : Nat) (A : List Addr) (v : V) (t : PT Str), AS[i]? = some A → vs[i]? = some v → ks[i]? = some t → TrV K H A v t) → TrV K H (a :: AS.flatten) (.ref p) (.case ks)
/-- trees in a row -/
structure Fo (K : PySem.W.Frag) (H : Hp) (AS : List (List Addr)) (vs : List V) (ks : List (PT Str)) : Prop where
  l1 : AS.length = ks.length
  l2 : vs.length = ks.length
  each : ∀ (i : Nat) (A : List Addr) (v : V) (t : PT Str), AS[i]? = some A → vs[i]? = some v → ks[i]? = some t → TrV K H A v t
section
variable {K : PySem.W.Frag}
theorem TrV.keep {H H' : Hp} {A : List Addr} {v : V} {t : PT Str} (h : TrV K H A v t) (e : ET K H H') : (∀ b ∈ A, ∀ xs, H b = some (.lst xs) → H' b = some (.lst xs)) → TrV K H' A v t := by
  induction h with
  | clash s n => exact fun _ => .clash (e _ _ s) (n.et e)
  | @case p a vs ks AS s ha l1 l2 _ ih =>
    intro k
    refine .case (e _ _ s) (k a (List.mem_cons_self ..) _ ha) l1 l2 fun i A v t h1 h2 h3 => ih i A v t h1 h2 h3 fun b hb => k b (List.mem_cons_of_mem _ (List.mem_flatten.mpr ⟨A, List.mem_iff_getElem?.mpr ⟨i, h1⟩, hb⟩))
theorem TrV.ex {H H' : Hp} {A : List Addr} {v : V} {t : PT Str} (e : Ex H H') (h : TrV K H A v t) : TrV K H' A v t := h.keep (Dw.Ex.et e) fun _ _ _ q => e _ _ q
theorem TrV.is {H : Hp} {A : List Addr} {v : V} {t : PT Str} (h : TrV K H A v t) : ∀ b ∈ A, ∃ xs, H b = some (.lst xs) := by
  induction h with
  | clash s n => intro b hb; cases hb
  | @case p a vs ks AS s ha l1 l2 _ ih =>
    intro b hb
    rcases List.mem_cons.mp hb with rfl | hb
    · exact ⟨_, ha⟩
    · obtain ⟨A, hA, hb⟩ := List.mem_flatten.mp hb
      obtain ⟨i, hi⟩ := List.mem_iff_getElem?.mp hA
      have il : i < AS.length := (List.getElem?_eq_some_iff.mp hi).1
      exact ih i A _ _ hi (List.getElem?_eq_getElem (by omega)) (List.getElem?_eq_getElem (by omega)) b hb
theorem Fo.keep {H H' : Hp} {AS : List (List Addr)} {vs : List V} {ks : List (PT Str)} (h : Fo K H AS vs ks) (e : ET K H H') (k : ∀ b ∈ AS.flatten, ∀ xs, H b = some (.lst xs) → H' b = some (.lst xs)) : Fo K H' AS vs ks := ⟨h.l1, h.l2, fun i A v t h1 h2 h3 => (h.each i A v t h1 h2 h3).keep e fun b hb => k b (List.mem_flatten.mpr ⟨A, List.mem_iff_getElem?.mpr ⟨i, h1⟩, hb⟩)⟩
theorem Fo.ex {H H' : Hp} {AS : List (List Addr)} {vs : List V} {ks : List (PT Str)} (e : Ex H H') (h : Fo K H AS vs ks) : Fo K H' AS vs ks := h.keep (Dw.Ex.et e) fun _ _ _ q => e _ _ q
theorem Fo.is {H : Hp} {AS : List (List Addr)} {vs : List V} {ks : List (PT Str)} (h : Fo K H AS vs ks) : ∀ b ∈ AS.flatten, ∃ xs, H b = some (.lst xs) := fun b hb => by
  obtain ⟨A, hA, hb⟩ := List.mem_flatten.mp hb
  obtain ⟨i, hi⟩ := List.mem_iff_getElem?.mp hA
  have il : i < AS.length := (List.getElem?_eq_some_iff.mp hi).1
  have a := h.l1
  have c := h.l2
  exact (h.each i A _ _ hi (List.getElem?_eq_getElem (by omega)) (List.getElem?_eq_getElem (by omega))).is b hb
theorem Fo.nil {H : Hp} : Fo K H [] [] [] := ⟨rfl, rfl, fun i A v t h => by cases h⟩
theorem snoc_at {α : Type} {l : List α} {x y : α} {i : Nat} (h : (l ++ [x])[i]? = some y) : (i < l.length ∧ l[i]? = some y) ∨ (i = l.length ∧ x = y) := by
  by_cases z : i < l.length
  · rw [List.getElem?_append_left z] at h
    exact .inl ⟨z, h⟩
  · have il := (List.getElem?_eq_some_iff.mp h).1
    rw [List.length_append, List.length_singleton] at il
    have e : i = l.length := by omega
    subst e
    rw [List.getElem?_append_right (Nat.le_refl _), Nat.sub_self] at h
    exact .inr ⟨rfl, Option.some.inj h⟩
theorem Fo.snoc {H : Hp} {AS : List (List Addr)} {vs : List V} {ks : List (PT Str)} {A : List Addr} {v : V} {t : PT Str} (h : Fo K H AS vs ks) (ht : TrV K H A v t) : Fo K H (AS ++ [A]) (vs ++ [v]) (ks ++ [t]) := ⟨by rw [List.length_append, List.length_append, h.l1]; rfl, by rw [List.length_append, List.length_append, h.l2]; rfl, fun i A' v' t' h1 h2 h3 => by
  have a := h.l1
  have c := h.l2
  rcases snoc_at h1 with ⟨z, h1⟩ | ⟨z, rfl⟩
  · rcases snoc_at h2 with ⟨_, h2⟩ | ⟨y, _⟩
    · rcases snoc_at h3 with ⟨_, h3⟩ | ⟨y, _⟩
      · exact h.each i _ _ _ h1 h2 h3
      · omega
    · omega
  · rcases snoc_at h2 with ⟨y, _⟩ | ⟨_, rfl⟩
    · omega
    · rcases snoc_at h3 with ⟨y, _⟩ | ⟨_, rfl⟩
      · omega
      · exact ht⟩
end
/-- what is told of a first clash -/
def FcV (K : PySem.W.Frag) (H : Hp) (v : V) : Option (Str × List Nat) → Prop
  | none => v = .non
  | some c => ∃ a y, v = .ref a ∧ SqT K H a [.str "clash", .str c.1, y] ∧ Nats K H y c.2
/-- what is told of images -/
def LedV (K : PySem.W.Frag) (H0 H : Hp) (v : V) : List Nat ⊕ PT Str → Prop
  | .inl m => ∃ a x, v = .ref a ∧ SqT K H a [.str "map", x] ∧ Nats K H x m
  | .inr t => ∃ a x A, v = .ref a ∧ SqT K H a [.str "none", x] ∧ TrV K H A x t ∧ A.Nodup ∧ ∀ b ∈ A, H0 b = none
theorem LedV.back {K : PySem.W.Frag} {H0 H1 H : Hp} {v : V} {s : List Nat ⊕ PT Str} (e : Ex H0 H1) (h : LedV K H1 H v s) : LedV K H0 H v s := by
  cases s with
  | inl m => exact h
  | inr t =>
    obtain ⟨a, x, A, ev, s, tr, nd, no⟩ := h
    exact ⟨a, x, A, ev, s, tr, nd, fun b hb => fresh_back e (no b hb)⟩
structure IArg where
  p : MArg
  p2 : MArg
  F : List Nat
def IArg.Ok (x : IArg) : Prop := Two x.p x.p2 ∧ Bg x.p.2.1 x.F.length x.F
def ISays (K : PySem.W.Frag) (x : IArg) (vs : List V) (H : Hp) : Prop := ∃ u v w f, vs = [u, v, w, f] ∧ MA K H u v x.p ∧ Mdl K H w x.p2.2.1 x.p2.2.2 ∧ Nats K H f x.F
theorem cls_take {sg : List (Str × Nat)} {m i : Nat} {d : Str × Nat} (h : sg[i]? = some d) : cls (sg.take (i + 1)) m = cls (sg.take i) m ++ (rows m d.2).map fun r => (d.1, r) := by
  unfold cls
  rw [List.take_add_one, h, List.flatMap_append]
  show _ ++ List.flatMap _ [d] = _
  rw [List.flatMap_singleton]
theorem cls_split {sg : List (Str × Nat)} {m i : Nat} {d : Str × Nat} (h : sg[i]? = some d) : cls sg m = cls (sg.take i) m ++ ((rows m d.2).map fun r => (d.1, r)) ++ cls (sg.drop (i + 1)) m := by
  rw [← cls_take h]
  unfold cls
  rw [← List.flatMap_append, List.take_append_drop]
theorem find_at {α : Type} {f : α → Bool} {l : List α} {j : Nat} {x : α} (h : l[j]? = some x) (no : (l.take j).find? f = none) (y : f x = true) : l.find? f = some x := by
  conv => lhs; rw [← List.take_append_drop j l]
  rw [List.find?_append, no, List.drop_eq_getElem_cons (List.getElem?_eq_some_iff.mp h).1]
  have e : l[j]'(List.getElem?_eq_some_iff.mp h).1 = x := (List.getElem?_eq_some_iff.mp h).2
  rw [e, List.find?_cons_of_pos y]
  rfl
section
variable {P : Program} {w : World} {K : PySem.W.Frag} {mg : Str → Option Value} {base : Heap}
def sp_first_clash (K : PySem.W.Frag) : Sp := spX (fun (x : IArg) vs H => ISays K x vs H ∧ x.Ok) (fun x v H => FcV K H v (fc (sysOf x.p x.p2) x.F))
theorem c_first_clash (T : Txt mg) (D : Df K mg "first_clash" s_first_clash ["signature", "one", "other", "images"]) (c_rows_below : Cl P w K mg base 1 "rows_below" (sp_rows_below K)) (c_clashes : Cl P w K mg base 2 "clashes" (sp_clashes K)) : Cl P w K mg base 3 "first_clash" (sp_first_clash K) := by
  refine cl_of (k := 2) D sc_first_clash (fun vs H Q E h => ?_) (fun f cdv A outer s H vs Q E hr h => ?_)
  · obtain ⟨p, ⟨⟨u, v, w, f, rfl, _⟩, _⟩, _⟩ := h
    rfl
  · obtain ⟨⟨p, p2, F⟩, ⟨⟨u, v, w, f, rfl, hm, hw, hf⟩, tw, hF⟩, q⟩ := h
    refine ⟨_, (pss_cons (ps_for PassesOwn.never (by rfl) (pi_tup (pv 0)) (pg_tup (by rfl) (pgs_cons (pg_name (i := 4) sc_first_clash.nd rfl (.inl rfl)) (pgs_cons (pg_name (i := 5) sc_first_clash.nd rfl (.inl rfl)) pgs_nil)))
        (pss_one (ps_for PassesOwn.never (by rfl) (pi_list (pe_cl c_rows_below hr (by first | decide | omega) (by rfl) (pa_cons (pe_callB call_len_seq (by rfl) T.z_len PySem.boot_len (pa_cons (pv 3) pa_nil)) (pa_cons (pv 5) pa_nil)))) (pg_name (i := 6) sc_first_clash.nd rfl (.inl rfl))
          (pss_one (ps_if (pt_val (pe_cl c_clashes hr (by first | decide | omega) (by rfl) (pa_cons (pv 0) (pa_cons (pv 1) (pa_cons (pv 2) (pa_cons (pv 3) (pa_cons (pv 4) (pa_cons (pv 6) pa_nil))))))))
            (pss_one (ps_ret (pe_tup (pa_cons pe_str (pa_cons (pv 4) (pa_cons (pv 6) pa_nil))))))
            pss_nil)))))
      (pss_one (ps_ret pe_non))), ?_⟩
    replace hm : MA K H u v p := hm
    replace hw : Mdl K H w p2.2.1 p2.2.2 := hw
    replace hf : Nats K H f F := hf
    replace tw : Two p p2 := tw
    replace hF : Bg p.2.1 F.length F := hF
    obtain ⟨fa, rfl, hfa⟩ := id hf
    obtain ⟨a, us, rfl, hS, hP⟩ := id hm.1
    have lS : us.length = p.1.length := paired_len hP
    have n6 := tw.ok.2.n6
    have leF := hF.le
    refine q_forT (K := K) (ev_var rfl) hS (fun i σ H' => Ex H H' ∧ (cls (p.1.take i) F.length).find? (bad (sysOf p p2) F) = none ∧ ∃ y4 y5 y6, σ = [some (.ref a), some v, some w, some (.ref fa), y4, y5, y6])
      (fun H1 e1 => ⟨e1, rfl, none, none, none, rfl⟩) (fun i σ' H' _ ⟨e, _⟩ => ex_t e hS) (fun i x σ' H1 hx ⟨e1, no, y4, y5, y6, hσ⟩ => ?_) (fun σ' H1 ⟨e1, no, y4, y5, y6, hσ⟩ => ?_)
    · subst hσ
      obtain ⟨d, hd, b, rfl, hb⟩ := paired_at hP hx
      have mem := List.mem_iff_getElem?.mpr ⟨i, hd⟩
      have d2 := tw.ok.1.pl d mem
      refine ⟨b, _, rfl, ex_t e1 hb, rfl, _, _, rfl, _, _, rfl, rfl, ?_⟩
      refine s_forLs (do_evP (ep_call (F.length, d.2) (ea_cons (ev_lenN (K := K) (ev_var rfl) (ex_t e1 hfa)) (ea_cons (ev_var rfl) ea_nil)) (fun _ _ => ⟨rfl, by show F.length ≤ 6; omega, d2⟩)) fun rv H2 e2 ⟨ra, rvs, hra, hrl, prs⟩ => ⟨ra, hra, ⟨rvs, sq_of hrl⟩, ?_⟩)
      subst hra
      replace prs : Paired (Nats K H2) rvs (rows F.length d.2) := prs
      have e02 := e1.trans e2
      refine loops_list (K := K) (xs := rvs) (fun j σ H' => Ex H2 H' ∧ (((rows F.length d.2).map fun r => (d.1, r)).take j).find? (bad (sysOf p p2) F) = none ∧ ∃ y6, σ = [some (.ref a), some v, some w, some (.ref fa), some (.str d.1), some (vi d.2), y6])
        ⟨Ex.refl _, rfl, y6, rfl⟩ (fun j σ' H' _ ⟨e, _⟩ => sq_of (e _ _ hrl)) (fun j x σ' H3 hx2 ⟨e3, no2, y6, hσ⟩ => ?_) (fun σ' H3 ⟨e3, no2, y6, hσ⟩ => ?_)
      · subst hσ
        obtain ⟨r, hr2, hxr⟩ := paired_at prs hx2
        have rin := List.mem_iff_getElem?.mpr ⟨j, hr2⟩
        have e03 := e02.trans e3
        refine do_name ?_
        have hat : ((rows F.length d.2).map fun r => (d.1, r))[j]? = some (d.1, r) := by rw [List.getElem?_map, hr2]; rfl
        refine s_when (b := bad (sysOf p p2) F (d.1, r)) (et_val (ev_callV (⟨p, p2, F, d.1, d.2, r⟩ : CArg) (ea_cons (ev_var rfl) (ea_cons (ev_var rfl) (ea_cons (ev_var rfl) (ea_cons (ev_var rfl) (ea_cons (ev_var rfl) (ea_cons (ev_var rfl) ea_nil)))))) (fun H4 e4 => ⟨⟨_, _, _, _, _, rfl, hm.ex (e03.trans e4), hw.ex (e03.trans e4), hf.ex (e03.trans e4), hxr.ex (e3.trans e4)⟩, tw, hF, mem, rin⟩) (fun _ _ z => z))) (fun hb H4 e4 => ?_) (fun hb H4 e4 => ?_)
        · refine s_retP (tv_tup (K := K) (xs := [.str "clash", .str d.1, x]) (ea_cons ev_c (ea_cons (ev_var rfl) (ea_cons (ev_var rfl) ea_nil))) (by show 3 ≤ 100000; decide)) fun rv H5 e5 ⟨a5, ev, s5⟩ => q _ H5 ((e03.trans e4).trans e5) ?_
          have : fc (sysOf p p2) F = some (d.1, r) := by
            unfold fc
            show (cls p.1 F.length).find? _ = _
            rw [cls_split hd, List.find?_append, List.find?_append, no, find_at hat no2 hb]
            rfl
          show FcV K H5 rv (fc (sysOf p p2) F)
          rw [this]
          exact ⟨a5, x, ev, s5, hxr.ex ((e3.trans e4).trans e5)⟩
        · refine ⟨e3.trans e4, ?_, _, rfl⟩
          rw [List.take_add_one, hat, List.find?_append, no2]
          show none.or (List.find? _ [(d.1, r)]) = none
          rw [List.find?_cons_of_neg (by rw [hb]; decide)]
          rfl
      · subst hσ
        have full : ((rows F.length d.2).map fun r => (d.1, r)).take rvs.length = (rows F.length d.2).map fun r => (d.1, r) := List.take_of_length_le (by rw [List.length_map, paired_len prs]; exact Nat.le_refl _)
        rw [full] at no2
        refine ⟨e02.trans e3, ?_, _, _, _, rfl⟩
        rw [cls_take hd, List.find?_append, no, no2]
        rfl
    · subst hσ
      rw [lS, List.take_length] at no
      refine s_ret ev_c fun H2 e2 => q _ H2 (e1.trans e2) ?_
      show FcV K H2 V.non (fc (sysOf p p2) F)
      unfold fc
      show FcV K H2 V.non ((cls p.1 F.length).find? _)
      rw [no]
      exact rfl
end
end K22
end
section
namespace K22
open PySem PySem.Spec PyProof.Rows L2 Evl RZ Dw M20 M25 CL LK
/-- the free ones from a number on -/
def fr (n : Nat) (F : List Nat) (i : Nat) : List Nat := ((List.range n).drop i).filter fun k => !decide (k ∈ F)
theorem fr_step {n : Nat} {F : List Nat} {i : Nat} (h : i < n) : fr n F i = if i ∈ F then fr n F (i + 1) else i :: fr n F (i + 1) := by
  have e : (List.range n).drop i = i :: (List.range n).drop (i + 1) := by
    rw [List.drop_eq_getElem_cons (by rw [List.length_range]; exact h), List.getElem_range]
  unfold fr
  rw [e, List.filter_cons]
  by_cases z : i ∈ F
  · rw [decide_eq_true z, if_pos z]
    rfl
  · rw [decide_eq_false z, if_neg z]
    rfl
theorem goOn_inl {f : List Nat → List Nat ⊕ PT Str} {F xs m : List Nat} {x : Nat} {acc : List (PT Str)} (h : f (F ++ [x]) = .inl m) : goOn f F (x :: xs) acc = .inl m := by
  conv => lhs; unfold goOn
  rw [h]
theorem goOn_inr {f : List Nat → List Nat ⊕ PT Str} {F xs : List Nat} {x : Nat} {t : PT Str} {acc : List (PT Str)} (h : f (F ++ [x]) = .inr t) : goOn f F (x :: xs) acc = goOn f F xs (acc ++ [t]) := by
  conv => lhs; unfold goOn
  rw [h]
theorem fr_end (n : Nat) (F : List Nat) : fr n F n = [] := by
  unfold fr
  rw [List.drop_of_length_le (by rw [List.length_range]; exact Nat.le_refl _)]
  rfl
section
variable {σ : L2.St} {H : Hp} {t1 t2 t3 t4 : TE} {u v w : V} {P : V → Hp → Prop}
theorem eap_4 (h1 : Ev t1 σ H u) (h2 : Ev t2 σ H v) (h3 : Ev t3 σ H w) (h4 : EvP t4 σ H P) : EvAP (tCons t1 (tCons t2 (tCons t3 (tCons t4 tNil)))) σ H (fun vs H' => ∃ f, vs = [u, v, w, f] ∧ P f H') := fun H1 e1 Q q =>
  do_cons (h1 H1 e1 _ fun H2 e2 => do_cons (h2 H2 (e1.trans e2) _ fun H3 e3 => do_cons (h3 H3 ((e1.trans e2).trans e3) _ fun H4 e4 => do_cons (h4 H4 (((e1.trans e2).trans e3).trans e4) _ fun f H5 e5 hf => do_nil (q _ H5 (((e2.trans e3).trans e4).trans e5) ⟨f, rfl, hf⟩)))))
end
section
variable {P : Program} {w : World} {K : PySem.W.Frag} {mg : Str → Option Value} {base : Heap}
def sp_led (K : PySem.W.Frag) (d : Nat) : Sp := spG (fun (x : IArg) vs H => ISays K x vs H ∧ x.Ok ∧ x.F.length + d = x.p.2.1 + 1) (fun x H0 v H => LedV K H0 H v (LK.led (sysOf x.p x.p2) (x.p.2.1 - x.F.length) x.F))
theorem c_led_from (T : Txt mg) (D : Df K mg "led_from" s_led_from ["signature", "one", "other", "images"]) (c_first_clash : Cl P w K mg base 3 "first_clash" (sp_first_clash K)) : ∀ d : Nat, Cl P w K mg base (d + 4) "led_from" (sp_led K d)
  | 0 => cl_of (k := 3) D sc_led_from (fun vs H Q E h => by
      obtain ⟨p, ⟨⟨u, v, w, f, rfl, _⟩, _⟩, _⟩ := h
      rfl) (fun f cdv A outer s H vs Q E hr h => by
      obtain ⟨x, ⟨_, ok, e⟩, _⟩ := h
      have := ok.2.le
      omega)
  | d + 1 => by
    have c_rec := c_led_from T D c_first_clash d
    refine cl_of (k := d + 4) D sc_led_from (fun vs H Q E h => ?_) (fun f cdv A outer s H vs Q E hr h => ?_)
    · obtain ⟨p, ⟨⟨u, v, w, f, rfl, _⟩, _⟩, _⟩ := h
      rfl
    · obtain ⟨⟨p, p2, F⟩, ⟨⟨u, v, w, f, rfl, hm, hw, hf⟩, ⟨tw, hF⟩, ld⟩, q⟩ := h
      refine ⟨_, (pss_cons (ps_set (i := 4) sc_led_from.nd rfl (.inl rfl) (pe_cl c_first_clash hr (by first | decide | omega) (by rfl) (pa_cons (pv 0) (pa_cons (pv 1) (pa_cons (pv 2) (pa_cons (pv 3) pa_nil))))))
      (pss_cons (ps_if (pt_cmpR op_notN (pv 4) pe_non (nomark _))
        (pss_one (ps_ret (pe_tup (pa_cons pe_str (pa_cons (pv 4) pa_nil)))))
        pss_nil)
      (pss_cons (ps_if (pt_cmpR op_eq (pe_callB call_len_seq (by rfl) T.z_len PySem.boot_len (pa_cons (pv 3) pa_nil)) (pe_ix ix_tup (pv 1) pe_int (fun _ _ => rfl)) (nomark _))
        (pss_one (ps_ret (pe_tup (pa_cons pe_str (pa_cons (pv 3) pa_nil)))))
        pss_nil)
      (pss_cons (ps_set (i := 5) sc_led_from.nd rfl (.inl rfl) (pe_lst pa_nil))
      (pss_cons (ps_for PassesOwn.never (by rfl) (pi_range1 (by rfl) T.z_range (pa_cons (pe_ix ix_tup (pv 1) pe_int (fun _ _ => rfl)) pa_nil)) (pg_name (i := 6) sc_led_from.nd rfl (.inl rfl))
        (pss_one (ps_if (pt_cmpR op_notIn_seq (pv 6) (pv 3) (by rfl))
          (pss_cons (ps_set (i := 7) sc_led_from.nd rfl (.inl rfl) (pe_cl c_rec hr (by first | decide | omega) (by rfl) (pa_cons (pv 0) (pa_cons (pv 1) (pa_cons (pv 2) (pa_cons (pe_op op_catA (pv 3) (pe_tup (pa_cons (pv 6) pa_nil))) pa_nil))))))
          (pss_cons (ps_if (pt_cmpR op_eq (pe_ix ix_tup (pv 7) pe_int (fun _ _ => rfl)) pe_str (nomark _))
            (pss_one (ps_ret (pv 7)))
            pss_nil)
          (pss_one (ps_expr (pe_bm PySem.F.plainAttrs_list PySem.F.slot_list_append PySem.F.type_list_append mt_append (pv 5) (pa_cons (pe_ix ix_tup (pv 7) pe_int (fun _ _ => rfl)) pa_nil))))))
          pss_nil)))
      (pss_one (ps_ret (pe_tup (pa_cons pe_str (pa_cons (pe_tup (pa_cons pe_str (pa_cons (pv 5) pa_nil))) pa_nil)))))))))), ?_⟩
      replace hm : MA K H u v p := hm
      replace hw : Mdl K H w p2.2.1 p2.2.2 := hw
      replace hf : Nats K H f F := hf
      replace tw : Two p p2 := tw
      replace hF : Bg p.2.1 F.length F := hF
      replace ld : F.length + (d + 1) = p.2.1 + 1 := ld
      replace q : ∀ v H', Ex H H' → LedV K H H' v (LK.led (sysOf p p2) (p.2.1 - F.length) F) → Q v H' := q
      obtain ⟨fa, rfl, hfa⟩ := id hf
      obtain ⟨va, vt, rfl, hva, hvt⟩ := id hm.2
      have n6 := tw.ok.2.n6
      have kd : p.2.1 - F.length = d := by omega
      rw [kd] at q
      refine q_asgP (P := fun v H' => FcV K H' v (fc (sysOf p p2) F)) (ep_call (⟨p, p2, F⟩ : IArg) (ea_cons (ev_var rfl) (ea_cons (ev_var rfl) (ea_cons (ev_var rfl) (ea_cons (ev_var rfl) ea_nil)))) (fun H1 e1 => ⟨⟨_, _, _, _, rfl, hm.ex e1, hw.ex e1, hf.ex e1⟩, tw, hF⟩)) fun cv H1 e1 hcv => ?_
      cases hfc : fc (sysOf p p2) F with
      | some c =>
        rw [hfc] at hcv
        obtain ⟨a, y, ev, hc, hy⟩ := hcv
        subst ev
        refine q_when (b := true) (et_is (et_isN (ev_var rfl)) rfl) (fun _ H2 e2 => ?_) (fun hb => by cases hb)
        refine s_retP (tv_tup (K := K) (xs := [.str "none", .ref a]) (ea_cons ev_c (ea_cons (ev_var rfl) ea_nil)) (by show 2 ≤ 100000; decide)) fun rv H3 e3 ⟨b, ev, hb⟩ => q _ H3 ((e1.trans e2).trans e3) ?_
        have e : LK.led (sysOf p p2) d F = .inr (.clash c.1 c.2) := by
          cases d <;> (unfold LK.led; rw [hfc])
        rw [e]
        exact ⟨b, .ref a, [], ev, hb, .clash (ex_t (e2.trans e3) hc) (hy.ex (e2.trans e3)), List.nodup_nil, fun b hb => by cases hb⟩
      | none =>
        rw [hfc] at hcv
        replace hcv : cv = .non := hcv
        subst hcv
        refine q_when (b := false) (et_is (et_isN (ev_var rfl)) rfl) (fun hb => by cases hb) (fun _ H2 e2 => ?_)
        have e02 := e1.trans e2
        refine q_when (b := decide (F.length = p.2.1)) (et_is (et_test (ev_op (ev_lenN (K := K) (ev_var rfl) (ex_t e02 hfa)) (ev_op (ev_var rfl) ev_c (rv_ixT (K := K) (ex_t e02 hva) (atI_vi (k := 0) rfl))) (rv_eq rfl))) vi_eq) (fun hb H3 e3 => ?_) (fun hb H3 e3 => ?_)
        · have z := of_decide_eq_true hb
          refine s_retP (tv_tup (K := K) (xs := [.str "map", .ref fa]) (ea_cons ev_c (ea_cons (ev_var rfl) ea_nil)) (by show 2 ≤ 100000; decide)) fun rv H4 e4 ⟨b, ev, hb⟩ => q _ H4 ((e02.trans e3).trans e4) ?_
          have d0 : d = 0 := by omega
          subst d0
          unfold LK.led
          rw [hfc]
          exact ⟨b, .ref fa, ev, hb, hf.ex ((e02.trans e3).trans e4)⟩
        · have z := of_decide_eq_false hb
          have e03 := e02.trans e3
          obtain ⟨k, rfl⟩ : ∃ k, d = k + 1 := ⟨d - 1, by omega⟩
          have eled : LK.led (sysOf p p2) (k + 1) F = goOn (LK.led (sysOf p p2) k) F (fr p.2.1 F 0) [] := by
            conv => lhs; unfold LK.led
            rw [hfc]
            rfl
          rw [eled] at q
          refine q_asgL (el_lst ea_nil (Nat.zero_le _)) fun m H4 nm e4 hm4 => ?_
          have e04 := e03.trans e4
          have nmH : H m = none := fresh_back e03 nm
          refine q_forR1 (n := (p.2.1 : Int)) (ea_cons (ev_op (ev_var rfl) ev_c (rv_ixT (K := K) (ex_t e04 hva) (atI_vi (k := 0) rfl))) ea_nil) ⟨by omega, by omega⟩ (fun i σ H' => Ex H H' ∧ (∃ AS vs ks, H' m = some (.lst vs) ∧ Fo K H' AS vs ks ∧ AS.flatten.Nodup ∧ (∀ b ∈ AS.flatten, H b = none ∧ b ≠ m) ∧ ks.length ≤ i ∧ goOn (LK.led (sysOf p p2) k) F (fr p.2.1 F 0) [] = goOn (LK.led (sysOf p p2) k) F (fr p.2.1 F i) ks) ∧ ∃ y6 y7, σ = [some u, some (.ref va), some w, some (.ref fa), some .non, some (.ref m), y6, y7])
            (fun H5 e5 => ⟨e04.trans e5, ⟨[], [], [], e5 _ _ hm4, Fo.nil, List.nodup_nil, fun b hb => (by cases hb), Nat.le_refl _, rfl⟩, none, none, rfl⟩) (fun i σ' H5 hi ⟨e5, ⟨AS, vs, ks, hm5, fo, nd, off, lk, eg⟩, y6, y7, hσ⟩ => ?_) (fun σ' H5 ⟨e5, ⟨AS, vs, ks, hm5, fo, nd, off, lk, eg⟩, y6, y7, hσ⟩ => ?_)
          · subst hσ
            have hin : i < p.2.1 := by omega
            rw [fr_step hin] at eg
            refine s_when (b := !decide (i ∈ F)) (et_is (et_test (ev_op (ev_var rfl) (ev_var rfl) (rv_niT (K := K) (ex_t e5 hfa) rfl (flat_vi F)))) (by rw [inV_vi])) (fun hb H6 e6 => ?_) (fun hb H6 e6 => ?_)
            · have ni : i ∉ F := fun zz => by rw [decide_eq_true zz] at hb; cases hb
              rw [if_neg ni] at eg
              have e06 := e5.trans e6
              have hm6 := e6 _ _ hm5
              refine q_asgP (P := fun v H' => LedV K H6 H' v (LK.led (sysOf p p2) k (F ++ [i]))) (ep_callGP (⟨p, p2, F ++ [i]⟩ : IArg) (eap_4 (P := fun v H' => Nats K H' v (F ++ [i])) (ev_var rfl) (ev_var rfl) (ev_var rfl) (tv_nats (tv_is (tv_cat (tv_ev (ev_var rfl) (ex_t e06 hfa)) (tv_tup (xs := [vi i]) (ea_cons (ev_var rfl) ea_nil) (by show 1 ≤ 100000; decide)) (by rw [List.length_map]; show F.length + 1 ≤ 100000; omega)) (by rw [List.map_append]; rfl)))) (fun vs' H7 e7 ⟨f7, ev, hf7⟩ => ?_) (fun H7 v7 H8 e7 e8 h => ?_)) fun tv H7 e7 htv => ?_
              · subst ev
                refine ⟨⟨_, _, _, _, rfl, hm.ex (e06.trans e7), hw.ex (e06.trans e7), hf7⟩, ⟨tw, ?_⟩, ?_⟩
                · show Bg p.2.1 (F ++ [i]).length (F ++ [i])
                  rw [List.length_append]
                  exact hF.snoc hin ni
                · show (F ++ [i]).length + (k + 1) = p.2.1 + 1
                  rw [List.length_append, List.length_singleton]
                  omega
              · have ek : p.2.1 - (F ++ [i]).length = k := by
                  rw [List.length_append, List.length_singleton]
                  omega
                replace h : LedV K H7 H8 v7 (LK.led (sysOf p p2) (p.2.1 - (F ++ [i]).length) (F ++ [i])) := h
                rw [ek] at h
                exact h.back e7
              · have e07 := e06.trans e7
                have hm7 := e7 _ _ hm6
                cases hl : LK.led (sysOf p p2) k (F ++ [i]) with
                | inl mp =>
                  rw [hl] at htv
                  rw [goOn_inl hl] at eg
                  obtain ⟨b, x, ev, hb7, hx⟩ := htv
                  subst ev
                  refine q_when (b := true) (et_is (et_test (ev_op (ev_op (ev_var rfl) ev_c (rv_ixT (K := K) hb7 (atI_vi (k := 0) rfl))) ev_c (rv_eq rfl))) rfl) (fun _ H8 e8 => ?_) (fun hb => by cases hb)
                  refine s_ret (ev_var rfl) fun H9 e9 => q _ H9 ((e07.trans e8).trans e9) ?_
                  rw [eg]
                  exact ⟨b, x, rfl, ex_t (e8.trans e9) hb7, hx.ex (e8.trans e9)⟩
                | inr t =>
                  rw [hl] at htv
                  rw [goOn_inr hl] at eg
                  obtain ⟨b, x, A, ev, hb7, tr, nA, oA⟩ := htv
                  subst ev
                  refine q_when (b := false) (et_is (et_test (ev_op (ev_op (ev_var rfl) ev_c (rv_ixT (K := K) hb7 (atI_vi (k := 0) rfl))) ev_c (rv_eq rfl))) rfl) (fun hb => by cases hb) (fun _ H8 e8 => ?_)
                  have hm8 := e8 _ _ hm7
                  have l2 := fo.l2
                  refine s_app hm8 (ev_var rfl) (ev_op (ev_var rfl) ev_c (rv_ixT (K := K) (ex_t e8 hb7) (atI_vi (k := 1) rfl))) (by omega) fun H9 e9 => ?_
                  have hm9 := e9 _ _ hm8
                  have e69 := (e7.trans e8).trans e9
                  have et : ET K H9 (upd H9 m (.lst (vs ++ [x]))) := ET.refl.upd hm9
                  have mA : ∀ b ∈ A, b ≠ m := fun b hb zz => by
                    have := oA b hb
                    rw [zz, hm6] at this
                    cases this
                  refine ⟨(e06.trans e69).mut nmH, ⟨AS ++ [A], vs ++ [x], ks ++ [t], upd_same, Fo.snoc ((fo.ex (e6.trans e69)).keep et fun b hb xs hxs => by rw [upd_ne (off b hb).2]; exact hxs) ((tr.ex (e8.trans e9)).keep et fun b hb xs hxs => by rw [upd_ne (mA b hb)]; exact hxs), ?_, ?_, ?_, eg⟩, _, _, rfl⟩
                  · rw [List.flatten_append, List.flatten_singleton]
                    refine List.nodup_append.mpr ⟨nd, nA, fun a ha b hb zz => ?_⟩
                    obtain ⟨xs, hxs⟩ := fo.is a ha
                    have := oA b hb
                    rw [← zz, e6 _ _ hxs] at this
                    cases this
                  · intro b hb
                    rw [List.flatten_append, List.flatten_singleton] at hb
                    rcases List.mem_append.mp hb with hb | hb
                    · exact off b hb
                    · exact ⟨fresh_back e06 (oA b hb), mA b hb⟩
                  · rw [List.length_append, List.length_singleton]
                    omega
            · have ni : i ∈ F := by
                rw [Bool.not_eq_false'] at hb
                exact of_decide_eq_true hb
              rw [if_pos ni] at eg
              exact ⟨e5.trans e6, ⟨AS, vs, ks, e6 _ _ hm5, fo.ex e6, nd, off, by omega, eg⟩, _, _, rfl⟩
          · subst hσ
            rw [Int.toNat_natCast, fr_end] at eg
            refine s_retP (ep_tup2 (K := K) (P := fun v _ => v = .str "none") (R2 := fun v H' => TV K H' v [.str "case", .ref m]) (ep_ev ev_c fun _ _ => rfl) (tv_tup (ea_cons ev_c (ea_cons (ev_var rfl) ea_nil)) (by show 2 ≤ 100000; decide)) (fun v H H' e h => h) (fun v H H' e h => h.ex e)) fun rv H6 e6 ⟨b, x, y, ev, hb, hx, hy⟩ => q _ H6 (e5.trans e6) ?_
            rw [eg]
            obtain ⟨ya, ey, hya⟩ := hy
            subst hx ey
            have fo6 := fo.ex e6
            exact ⟨b, _, m :: AS.flatten, ev, hb, .case hya (e6 _ _ hm5) fo6.l1 fo6.l2 fo6.each, List.nodup_cons.mpr ⟨fun zz => (off m zz).2 rfl, nd⟩, fun b hb => by
              rcases List.mem_cons.mp hb with rfl | hb
              · exact nmH
              · exact (off b hb).1⟩
/-! ### likeness -/
structure Pair2 (p p2 : MArg) : Prop where
  ok : MOk p
  ok2 : MOk p2
  es : p2.1 = p.1
def LkV (K : PySem.W.Frag) (H0 H : Hp) (v : V) (p p2 : MArg) : Prop := if p.2.1 = p2.2.1 then LedV K H0 H v (LK.led (sysOf p p2) p.2.1 []) else TV K H v [.str "size"]
theorem LkV.back {H0 H1 H : Hp} {v : V} {p p2 : MArg} (e : Ex H0 H1) (h : LkV K H1 H v p p2) : LkV K H0 H v p p2 := by
  unfold LkV at h ⊢
  by_cases z : p.2.1 = p2.2.1
  · rw [if_pos z] at h ⊢
    exact h.back e
  · rw [if_neg z] at h ⊢
    exact h
def MSays (K : PySem.W.Frag) (x : MArg × MArg) (vs : List V) (H : Hp) : Prop := ∃ u v w, vs = [u, v, w] ∧ MA K H u v x.1 ∧ Mdl K H w x.2.2.1 x.2.2.2
def sp_likeness (K : PySem.W.Frag) : Sp := spG (fun (x : MArg × MArg) vs H => MSays K x vs H ∧ Pair2 x.1 x.2) (fun x H0 v H => LkV K H0 H v x.1 x.2)
theorem c_likeness (T : Txt mg) (D : Df K mg "likeness" s_likeness ["signature", "one", "other"]) (c_need_two_models : Cl P w K mg base 8 "need_two_models" (sp_need_two K)) (c_led : ∀ d : Nat, Cl P w K mg base (d + 4) "led_from" (sp_led K d)) : Cl P w K mg base 12 "likeness" (sp_likeness K) := by
  refine cl_of (k := 11) D sc_likeness (fun vs H Q E h => ?_) (fun f cdv A outer s H vs Q E hr h => ?_)
  · obtain ⟨p, ⟨⟨u, v, w, rfl, _⟩, _⟩, _⟩ := h
    rfl
  · obtain ⟨⟨p, p2⟩, ⟨⟨u, v, x3, rfl, hm, hw⟩, ok, ok2, es⟩, q⟩ := h
    have c_led_from : Cl P w K mg base (p.2.1 + 5) "led_from" (sp_led K (p.2.1 + 1)) := c_led (p.2.1 + 1)
    have n6 : p.2.1 ≤ 6 := MdlOk.n6 (show MdlOk p.1 p.2.1 p.2.2 from ok.2)
    refine ⟨_, (pss_cons (ps_expr (pe_cl c_need_two_models hr (by first | decide | omega) (by rfl) (pa_cons (pv 0) (pa_cons (pv 1) (pa_cons (pv 2) pa_nil)))))
      (pss_cons (ps_if (pt_cmpR op_ne (pe_ix ix_tup (pv 1) pe_int (fun _ _ => rfl)) (pe_ix ix_tup (pv 2) pe_int (fun _ _ => rfl)) (nomark _))
        (pss_one (ps_ret (pe_tup (pa_cons pe_str pa_nil))))
        pss_nil)
      (pss_one (ps_ret (pe_cl c_led_from hr (by first | decide | omega) (by rfl) (pa_cons (pv 0) (pa_cons (pv 1) (pa_cons (pv 2) (pa_cons (pe_tup pa_nil) pa_nil))))))))), ?_⟩
    replace hm : MA K H u v p := hm
    replace hw : Mdl K H x3 p2.2.1 p2.2.2 := hw
    replace ok : MOk p := ok
    replace ok2 : MOk p2 := ok2
    replace es : p2.1 = p.1 := es
    replace q : ∀ v H', Ex H H' → LkV K H H' v p p2 → Q v H' := q
    obtain ⟨va, vt, rfl, hva, hvt⟩ := id hm.2
    obtain ⟨wa, wt, rfl, hwa, hwt⟩ := id hw
    refine q_drop (v := .non) (ev_callV (p, p2) (ea_cons (ev_var rfl) (ea_cons (ev_var rfl) (ea_cons (ev_var rfl) ea_nil))) (fun H1 e1 => ⟨⟨_, _, _, rfl, hm.ex e1, hw.ex e1⟩, ok, ok2, es⟩) (fun _ _ z => z)) fun H1 e1 => ?_
    refine q_when (b := !decide (p.2.1 = p2.2.1)) (et_is (et_test (ev_op (ev_op (ev_var rfl) ev_c (rv_ixT (K := K) (ex_t e1 hva) (atI_vi (k := 0) rfl))) (ev_op (ev_var rfl) ev_c (rv_ixT (K := K) (ex_t e1 hwa) (atI_vi (k := 0) rfl))) (rv_ne rfl))) (by rw [vi_eq])) (fun hb H2 e2 => ?_) (fun hb H2 e2 => ?_)
    · have ne : p.2.1 ≠ p2.2.1 := fun zz => by rw [decide_eq_true zz] at hb; cases hb
      refine s_retP (tv_tup (K := K) (xs := [.str "size"]) (ea_cons ev_c ea_nil) (by show 1 ≤ 100000; decide)) fun rv H3 e3 hv => q _ H3 ((e1.trans e2).trans e3) ?_
      unfold LkV
      rw [if_neg ne]
      exact hv
    · have en : p.2.1 = p2.2.1 := by
        rw [Bool.not_eq_false'] at hb
        exact of_decide_eq_true hb
      have e02 := e1.trans e2
      refine s_retP (P := fun v H' => LedV K H2 H' v (LK.led (sysOf p p2) p.2.1 [])) (ep_callGP (⟨p, p2, []⟩ : IArg) (eap_4 (P := fun v H' => Nats K H' v []) (ev_var rfl) (ev_var rfl) (ev_var rfl) (tv_nats (tv_tup ea_nil (Nat.zero_le _)))) (fun vs' H3 e3 ⟨f3, ev, hf3⟩ => by
        subst ev
        exact ⟨⟨_, _, _, _, rfl, hm.ex (e02.trans e3), hw.ex (e02.trans e3), hf3⟩, ⟨⟨ok, ok2, es, en.symm⟩, ⟨rfl, fun x z => (by cases z), List.nodup_nil⟩⟩, by show 0 + (p.2.1 + 1) = p.2.1 + 1; omega⟩) (fun H3 v3 H4 e3 e4 h => LedV.back e3 h)) fun rv H3 e3 hv => q _ H3 (e02.trans e3) ?_
      unfold LkV
      rw [if_pos en]
      exact hv.back e02
end
end K22
end
section
namespace K22
open PySem PySem.Spec PyProof.Rows L2 Evl RZ Dw M20
/-! data whose lists are none of the purse's -/
mutual
inductive Dz (K : PySem.W.Frag) (p c : Addr) (H : Hp) : V → PyData → Prop where
  | non : Dz K p c H .non .none
  | bl (b : Bool) : Dz K p c H (.bl b) (.bool b)
  | int (i : Int) : Dz K p c H (.int i) (.int i)
  | str (x : Str) : Dz K p c H (.str x) (.str x)
  | lst {a : Addr} {xs : List V} {ds : List PyData} (h : H a = some (.lst xs)) (hp : a ≠ p) (hc : a ≠ c) (r : DzAll K p c H xs ds) : Dz K p c H (.ref a) (.list ds)
  | tup {a : Addr} {xs : List V} {ds : List PyData} (h : SqT K H a xs) (r : DzAll K p c H xs ds) : Dz K p c H (.ref a) (.tuple ds)
inductive DzAll (K : PySem.W.Frag) (p c : Addr) (H : Hp) : List V → List PyData → Prop where
  | nil : DzAll K p c H [] []
  | cons {v : V} {vs : List V} {d : PyData} {ds : List PyData} (a : Dz K p c H v d) (b : DzAll K p c H vs ds) : DzAll K p c H (v :: vs) (d :: ds)
end
section
variable {P : Program} {w : World} {K : PySem.W.Frag} {mg : Str → Option Value} {base : Heap} {σ : L2.St} {H H' : Hp} {p c : Addr} {n : Nat} {v : V} {d : PyData}
mutual
theorem Dz.dp : ∀ {v : V} {d : PyData}, Dz K p c H v d → Dp K H v d
  | _, _, .non => .non
  | _, _, .bl b => .bl b
  | _, _, .int i => .int i
  | _, _, .str x => .str x
  | _, _, .lst h _ _ r => .lst (sq_of h) (DzAll.dp r)
  | _, _, .tup h r => .tup h (DzAll.dp r)
theorem DzAll.dp : ∀ {vs : List V} {ds : List PyData}, DzAll K p c H vs ds → DpAll K H vs ds
  | _, _, .nil => .nil
  | _, _, .cons a b => .cons (Dz.dp a) (DzAll.dp b)
end
mutual
theorem Dz.ex (e : Ex H H') : ∀ {v : V} {d : PyData}, Dz K p c H v d → Dz K p c H' v d
  | _, _, .non => .non
  | _, _, .bl b => .bl b
  | _, _, .int i => .int i
  | _, _, .str x => .str x
  | _, _, .lst h hp hc r => .lst (e _ _ h) hp hc (DzAll.ex e r)
  | _, _, .tup h r => .tup (ex_t e h) (DzAll.ex e r)
theorem DzAll.ex (e : Ex H H') : ∀ {vs : List V} {ds : List PyData}, DzAll K p c H vs ds → DzAll K p c H' vs ds
  | _, _, .nil => .nil
  | _, _, .cons a b => .cons (Dz.ex e a) (DzAll.ex e b)
end
mutual
theorem Dz.off (pu : Pur H p c n) (o : Off H H' p c) : ∀ {v : V} {d : PyData}, Dz K p c H v d → Dz K p c H' v d
  | _, _, .non => .non
  | _, _, .bl b => .bl b
  | _, _, .int i => .int i
  | _, _, .str x => .str x
  | _, _, .lst h hp hc r => .lst (o _ _ hp hc h) hp hc (DzAll.off pu o r)
  | _, _, .tup h r => .tup (o.et pu _ _ h) (DzAll.off pu o r)
theorem DzAll.off (pu : Pur H p c n) (o : Off H H' p c) : ∀ {vs : List V} {ds : List PyData}, DzAll K p c H vs ds → DzAll K p c H' vs ds
  | _, _, .nil => .nil
  | _, _, .cons a b => .cons (Dz.off pu o a) (DzAll.off pu o b)
end
theorem DzAll.len : ∀ {vs : List V} {ds : List PyData}, DzAll K p c H vs ds → vs.length = ds.length
  | _, _, .nil => rfl
  | _, _, .cons a b => by rw [List.length_cons, List.length_cons, DzAll.len b]
theorem DzAll.get : ∀ {vs : List V} {ds : List PyData} {k : Nat} {x : V}, DzAll K p c H vs ds → vs[k]? = some x → ∃ e, ds[k]? = some e ∧ Dz K p c H x e
  | _, _, k, _, .nil, h => by
    rw [List.getElem?_nil] at h
    cases h
  | _, _, 0, x, .cons a b, h => by
    cases Option.some.inj h
    exact ⟨_, rfl, a⟩
  | _, _, k + 1, x, .cons a b, h => DzAll.get (k := k) b h
theorem DzAll.app : ∀ {vs us : List V} {ds es : List PyData}, DzAll K p c H vs ds → DzAll K p c H us es → DzAll K p c H (vs ++ us) (ds ++ es)
  | _, _, _, _, .nil, h => h
  | _, _, _, _, .cons a b, h => .cons a (DzAll.app b h)
theorem DzAll.take : ∀ {vs : List V} {ds : List PyData} (k : Nat), DzAll K p c H vs ds → DzAll K p c H (vs.take k) (ds.take k)
  | _, _, k, .nil => by
    rw [List.take_nil, List.take_nil]
    exact .nil
  | _, _, 0, .cons a b => .nil
  | _, _, k + 1, .cons a b => .cons a (DzAll.take k b)
theorem DzAll.drop : ∀ {vs : List V} {ds : List PyData} (k : Nat), DzAll K p c H vs ds → DzAll K p c H (vs.drop k) (ds.drop k)
  | _, _, k, .nil => by
    rw [List.drop_nil, List.drop_nil]
    exact .nil
  | _, _, 0, .cons a b => .cons a b
  | _, _, k + 1, .cons a b => DzAll.drop k b
/-! bounded data, ints of up to forty signs -/
structure Gb (k W : Nat) (d : PyData) : Prop where
  lay : d.canLay0 = true
  dep : d.depth ≤ k
  wgt : d.weight ≤ W
  its : d.intsShort 40 = true
  sho : d.showable = true
theorem Gb.mono {k W k' W' : Nat} {d : PyData} (h : Gb k W d) (a : k ≤ k') (b : W ≤ W') : Gb k' W' d := ⟨h.lay, Nat.le_trans h.dep a, Nat.le_trans h.wgt b, h.its, h.sho⟩
theorem Gb.len {k W : Nat} {d : PyData} (h : Gb k W d) (b : W ≤ 100000) : d.shown.length ≤ sizeLine := by
  have z := PyData.shown_le 40 (by decide) d (PyData.leavesShort_of_canLay0 40 d h.lay h.its)
  have y := h.wgt
  rw [sizeLine_eq]
  omega
/-! what isinstance says -/
def isStr : PyData → Bool
  | .str _ => true
  | _ => false
def isTup : PyData → Bool
  | .tuple _ => true
  | _ => false
def wholeB : PyData → Bool
  | .int _ => true
  | _ => false
theorem ev_isStr {ta tb : TE} (ha : Ev ta σ H v) (hc : Ev tb σ H (.ty "str")) (h : Dz K p c H v d) : Ev (tCB (rIsi K) (tCons ta (tCons tb tNil))) σ H (.bl (isStr d)) := by
  cases h with
  | non => exact ev_isi (b := false) ha hc (.ty _) (fun _ _ => tyx_non) (kit_ty (by decide +kernel))
  | bl b => exact ev_isi (b := false) ha hc (.ty _) (fun _ _ => tyx_bl b) (kit_ty (by decide +kernel))
  | int i => exact ev_isi (b := false) ha hc (.ty _) (fun _ _ => tyx_int i) (kit_ty (by decide +kernel))
  | str z => exact ev_isi (b := true) ha hc (.ty _) (fun _ _ => tyx_str z) (kit_ty (by decide +kernel))
  | lst h _ _ _ => exact ev_isi (b := false) ha hc (.ty _) (fun _ e => .base (.lst (e _ _ h))) (kit_ty (by decide +kernel))
  | tup h _ => exact ev_isi (b := false) ha hc (.ty _) (fun _ e => tyx_tup (ex_t e h)) (kit_ty (by decide +kernel))
theorem ev_isTup {ta tb : TE} (ha : Ev ta σ H v) (hc : Ev tb σ H (.ty "tuple")) (h : Dz K p c H v d) : Ev (tCB (rIsi K) (tCons ta (tCons tb tNil))) σ H (.bl (isTup d)) := by
  cases h with
  | non => exact ev_isi (b := false) ha hc (.ty _) (fun _ _ => tyx_non) (kit_ty (by decide +kernel))
  | bl b => exact ev_isi (b := false) ha hc (.ty _) (fun _ _ => tyx_bl b) (kit_ty (by decide +kernel))
  | int i => exact ev_isi (b := false) ha hc (.ty _) (fun _ _ => tyx_int i) (kit_ty (by decide +kernel))
  | str z => exact ev_isi (b := false) ha hc (.ty _) (fun _ _ => tyx_str z) (kit_ty (by decide +kernel))
  | lst h _ _ _ => exact ev_isi (b := false) ha hc (.ty _) (fun _ e => .base (.lst (e _ _ h))) (kit_ty (by decide +kernel))
  | tup h _ => exact ev_isi (b := true) ha hc (.ty _) (fun _ e => tyx_tup (ex_t e h)) (kit_ty (by decide +kernel))
theorem ev_isIntB {ta tb tc td : TE} (ha : Ev ta σ H v) (hc : Ev tb σ H (.ty "int")) (ha2 : Ev tc σ H v) (hc2 : Ev td σ H (.ty "bool")) (h : Dz K p c H v d) : Ev (tAndV (tCB (rIsi K) (tCons ta (tCons tb tNil))) (tNotV (tCB (rIsi K) (tCons tc (tCons td tNil))))) σ H (.bl (wholeB d)) := by
  cases h with
  | non => exact ev_andV (a := false) (b := false) (ev_isi ha hc (.ty _) (fun _ _ => tyx_non) (kit_ty (by decide +kernel))) (fun z => by cases z)
  | bl b => exact ev_andV (a := true) (b := false) (ev_isi ha hc (.ty _) (fun _ _ => tyx_bl b) (kit_ty (by decide +kernel))) (fun _ => ev_notV (a := true) (ev_isi ha2 hc2 (.ty _) (fun _ _ => tyx_bl b) (kit_ty (by decide +kernel))))
  | int i => exact ev_andV (a := true) (b := true) (ev_isi ha hc (.ty _) (fun _ _ => tyx_int i) (kit_ty (by decide +kernel))) (fun _ => ev_notV (a := false) (ev_isi ha2 hc2 (.ty _) (fun _ _ => tyx_int i) (kit_ty (by decide +kernel))))
  | str z => exact ev_andV (a := false) (b := false) (ev_isi ha hc (.ty _) (fun _ _ => tyx_str z) (kit_ty (by decide +kernel))) (fun z => by cases z)
  | lst h _ _ _ => exact ev_andV (a := false) (b := false) (ev_isi ha hc (.ty _) (fun _ e => .base (.lst (e _ _ h))) (kit_ty (by decide +kernel))) (fun z => by cases z)
  | tup h _ => exact ev_andV (a := false) (b := false) (ev_isi ha hc (.ty _) (fun _ e => tyx_tup (ex_t e h)) (kit_ty (by decide +kernel))) (fun z => by cases z)
end
def belowB (n : Int) : PyData → Bool
  | .int i => decide (0 ≤ i) && decide (i < n)
  | _ => false
section
variable {P : Program} {w : World} {K : PySem.W.Frag} {mg : Str → Option Value} {base : Heap} {σ : L2.St} {H H' : Hp} {p c : Addr} {n : Nat} {v : V} {d : PyData}
def sp_whole_any (K : PySem.W.Frag) : Sp := spX (fun (z : (Addr × Addr) × PyData) vs H => (fun (p c : Addr) (d : PyData) => ∃ v, vs = [v] ∧ Dz K p c H v d) z.1.1 z.1.2 z.2) (fun z v H => (fun (d : PyData) => v = .bl (wholeB d)) z.2)
theorem c_whole_any (T : Txt mg) (D : Df K mg "is_whole" s_is_whole ["thing"]) : Cl P w K mg base 1 "is_whole" (sp_whole_any K) := by
  refine cl_of (k := 0) D sc_is_whole (fun vs H Q E h => ?_) (fun f cdv A outer s H vs Q E hr h => ?_)
  · obtain ⟨d, ⟨v, rfl, _⟩, _⟩ := h
    rfl
  · obtain ⟨⟨⟨p, c⟩, d⟩, ⟨v, rfl, hv⟩, q⟩ := h
    refine ⟨_, (pss_one (ps_ret (pe_and (pe_callB call_isi (by rfl) T.z_isinstance (by decide +kernel) (pa_cons (pv 0) (pa_cons (pe_ty "int" (by rfl) T.z_int (by decide +kernel)) pa_nil))) (pe_one (pe_not (pe_callB call_isi (by rfl) T.z_isinstance (by decide +kernel) (pa_cons (pv 0) (pa_cons (pe_ty "bool" (by rfl) T.z_bool (by decide +kernel)) pa_nil)))))))), ?_⟩
    exact s_ret (ev_isIntB (K := K) (ev_var rfl) ev_c (ev_var rfl) ev_c hv) fun H1 e1 => q _ H1 e1 rfl
theorem whole_int (h : Dz K p c H v d) (w : wholeB d = true) : ∃ i, v = .int i ∧ d = .int i := by
  cases h with
  | int i => exact ⟨i, rfl, rfl⟩
  | non => cases w
  | bl b => cases w
  | str z => cases w
  | lst _ _ _ _ => cases w
  | tup _ _ => cases w
def sp_below_any (K : PySem.W.Frag) : Sp := spX (fun (z : (Addr × Addr) × PyData × Int) vs H => (fun (p c : Addr) (q : PyData × Int) => ∃ v, vs = [v, .int q.2] ∧ Dz K p c H v q.1) z.1.1 z.1.2 z.2) (fun z v H => (fun (q : PyData × Int) => v = .bl (belowB q.2 q.1)) z.2)
theorem c_below_any (T : Txt mg) (D : Df K mg "is_below" s_is_below ["thing", "size"]) (c_whole_any : Cl P w K mg base 1 "is_whole" (sp_whole_any K)) : Cl P w K mg base 2 "is_below" (sp_below_any K) := by
  refine cl_of (k := 1) D sc_is_below (fun vs H Q E h => ?_) (fun f cdv A outer s H vs Q E hr h => ?_)
  · obtain ⟨d, ⟨v, rfl, _⟩, _⟩ := h
    rfl
  · obtain ⟨⟨⟨p, c⟩, d, n⟩, ⟨v, rfl, hv⟩, q⟩ := h
    have c_is_whole := c_whole_any
    refine ⟨_, (pss_one (ps_ret (pe_and (pe_cl c_is_whole hr (by first | decide | omega) (by rfl) (pa_cons (pv 0) pa_nil)) (pe_one (pe_chain op_le op_lt pe_int (pv 0) (pv 1)))))), ?_⟩
    replace hv : Dz K p c H v d := hv
    replace q : ∀ r H', Ex H H' → r = .bl (belowB n d) → Q r H' := q
    by_cases hw : wholeB d = true
    · obtain ⟨i, rfl, rfl⟩ := whole_int hv hw
      refine s_ret (ev_andV (a := true) (b := belowB n (.int i)) (ev_callV (v := .bl true) ((p, c), PyData.int i) (ea_cons (ev_var rfl) ea_nil) (fun H1 e1 => ⟨_, rfl, .int i⟩) (fun _ _ z => z.trans rfl)) (fun _ => ev_chain ev_c (ev_var rfl) (fun _ => ev_var rfl) rv_I0 (fun _ => rv_I0))) fun H1 e1 => q _ H1 e1 rfl
    · have hw2 : wholeB d = false := by simpa using hw
      refine s_ret (ev_andV (a := false) (b := false) (ev_callV (v := .bl false) ((p, c), d) (ea_cons (ev_var rfl) ea_nil) (fun H1 e1 => ⟨_, rfl, hv.ex e1⟩) (fun _ _ z => by rw [z, hw2])) (fun z => by cases z)) fun H1 e1 => q _ H1 e1 ?_
      cases d <;> first | rfl | cases hw2
end
end K22
end
section
namespace K22
open PySem PySem.Spec PyProof.Rows L2 Evl RZ Dw M20
section
variable {K : PySem.W.Frag} {σ : L2.St} {H : Hp} {ta tb te : TE} {v : V}
theorem do_test2 {r : R2} {ta tb : TE} {Q : Bool → Hp → Prop} (h : ta σ H fun x H1 => tb σ H1 fun y H2 => r x y H2 fun z H3 => ∃ k, z = .bl k ∧ Q k H3) : tTest (tOp r ta tb) σ H Q := h
theorem inV_str (x : Str) : ∀ ks : List Str, inV (.str x) (ks.map V.str) = decide (x ∈ ks)
  | [] => rfl
  | k :: ks => by
    have ih := inV_str x ks
    unfold inV at ih ⊢
    rw [List.map_cons, List.any_cons, ih]
    have e : eqV (V.str k) (V.str x) = decide (x = k) := by
      by_cases h : x = k
      · subst h
        simp [eqV]
      · have h2 : ¬ k = x := fun z => h z.symm
        simp [eqV, h, h2]
    rw [e]
    by_cases h : x = k <;> simp [h]
theorem flat_all : ∀ ks : List Str, (ks.map V.str).all flatV = true
  | [] => rfl
  | k :: ks => by
    rw [List.map_cons, List.all_cons, flat_all ks]
    rfl
theorem et_isNone {ta : TE} {x : V} (h : Ev ta σ H x) : EvT (tTest (tOp (fun x y H Q => y = .non ∧ Q (.bl (decide (x = .non))) H) ta (tC .non))) σ H (decide (x = .non)) := fun H1 e1 Q q => do_test2 (h H1 e1 _ fun H2 e2 => ⟨rfl, _, rfl, q H2 e2⟩)
theorem do_ifX {b : Bool} {Q : VK} {tt : TT} {ta tb : TE} (h : EvT tt σ H b) (h1 : b = true → ∀ H1, Ex H H1 → ta σ H1 Q) (h2 : b = false → ∀ H1, Ex H H1 → tb σ H1 Q) : tIf tt ta tb σ H Q := by
  refine h H (Ex.refl _) _ fun H1 e1 => ?_
  cases b with
  | true => exact h1 rfl H1 e1
  | false => exact h2 rfl H1 e1
end
end K22
end
section
namespace K22
open PySem PySem.Spec PyProof.Rows L2 Evl RZ Dw M20 M25
section
variable {P : Program} {w : World} {K : PySem.W.Frag} {mg : Str → Option Value} {base : Heap}
/-! ### pick -/
def sp_pick (K : PySem.W.Frag) : Sp := fun vs H Q _ => ∃ (p c l : Addr) (t : Nat) (xs : List V), vs = [.ref p, .ref l] ∧ Pur H p c t ∧ t ≤ 90000 ∧ ((H l = some (.lst xs) ∧ l ≠ p ∧ l ≠ c) ∨ SqT K H l xs) ∧ 1 ≤ xs.length ∧ xs.length ≤ 1000 ∧ ∀ (k : Nat) x H', xs[k]? = some x → Off H H' p c → Pur H' p c (t + 1) → Q x H'
theorem c_pick (T : Txt mg) (D : Df K mg "_law_pick" s__law_pick ["_law_purse_here", "_law_things"]) (c_draw : Cl P w K mg base 1 "_law_draw" sp_draw) : Cl P w K mg base 2 "_law_pick" (sp_pick K) := by
  refine cl_of (k := 1) D sc__law_pick (fun vs H Q E h => ?_) (fun f cdv A outer s H vs Q E hr h => ?_)
  · obtain ⟨p, c, l, t, xs, rfl, _⟩ := h
    rfl
  · obtain ⟨p, c, l, t, xs, rfl, pu, t1, hx, x1, x2, q⟩ := h
    refine ⟨_, (pss_one (ps_ret (pe_ix (ix_or ix_list ix_tup) (pv 1) (pe_cl c_draw hr (by first | decide | omega) (by rfl) (pa_cons (pv 0) (pa_cons (pe_callB call_len_seq (by rfl) T.z_len PySem.boot_len (pa_cons (pv 1) pa_nil)) pa_nil))) (fun _ _ => rfl)))), ?_⟩
    refine do_ret (do_op (do_ev (ev_var rfl) fun H1 e1 => do_draw (n := xs.length) (ev_var rfl) (fun H2 e2 Q2 q2 => ev_var rfl H2 (Ex.refl _) _ fun H3 e3 => ⟨l, xs, rfl, hx.imp (fun h => sq_of (((e1.trans e2).trans e3) _ _ h.1)) (fun h => ex_t ((e1.trans e2).trans e3) h), q2 H3 e3⟩) (pu.ex e1) (by omega) x1 x2 fun k H2 hk o2 pu2 => ?_))
    have hk' : xs[k]? = some xs[k] := List.getElem?_eq_getElem hk
    have o02 := (Off.of_ex e1).trans o2
    have got := q k _ H2 hk' o02 pu2
    rcases hx with ⟨hx, lp, lc⟩ | hx
    · exact .inl ⟨l, xs, (k : Int), xs[k], rfl, rfl, sq_of (o02 _ _ lp lc hx), atI_nat hk', got⟩
    · exact .inr ⟨l, xs, (k : Int), xs[k], rfl, rfl, o02.et pu _ _ hx, atI_nat hk', got⟩
end
section
variable {K : PySem.W.Frag} {σ : L2.St} {H H' : Hp} {R : V → Hp → Prop} {n m t : Nat} {p c : Addr} {ta : TA} {te : TE}
def EvAs (R : V → Hp → Prop) (n : Nat) (ta : TA) (σ : L2.St) (H : Hp) : Prop := ∀ H1, Ex H H1 → ∀ Q : List V → Hp → Prop, (∀ vs H2, Ex H1 H2 → vs.length = n → (∀ x ∈ vs, R x H2) → Q vs H2) → ta σ H1 Q
theorem eas_nil : EvAs R 0 tNil σ H := fun H1 _ Q q => q [] H1 (Ex.refl _) rfl (fun x hx => by cases hx)
theorem eas_cons (st : ∀ v H H', Ex H H' → R v H → R v H') (h : EvP te σ H R) (hr : EvAs R n ta σ H) : EvAs R (n + 1) (tCons te ta) σ H := fun H1 e Q q => do_cons (h H1 e _ fun v H2 e2 hv => hr H2 (e.trans e2) _ fun vs H3 e3 ln hvs => q _ H3 (e2.trans e3) (by rw [List.length_cons, ln]) (fun x hx => by
  rcases List.mem_cons.mp hx with z | z
  · rw [z]
    exact st _ _ _ e3 hv
  · exact hvs x z))
def LsR (R : V → Hp → Prop) (p c : Addr) (n : Nat) (v : V) (H : Hp) : Prop := ∃ (l : Addr) (xs : List V), v = .ref l ∧ H l = some (.lst xs) ∧ l ≠ p ∧ l ≠ c ∧ xs.length = n ∧ ∀ x ∈ xs, R x H
theorem LsR.ex (st : ∀ v H H', Ex H H' → R v H → R v H') (e : Ex H H') (h : LsR R p c n v H) : LsR R p c n v H' := let ⟨l, xs, q, hx, a, b, ln, all⟩ := h; ⟨l, xs, q, e _ _ hx, a, b, ln, fun x hx => st _ _ _ e (all x hx)⟩
theorem ep_lstR (st : ∀ v H H', Ex H H' → R v H → R v H') (h : EvAs R n ta σ H) (l : n ≤ 1000) (pu : Pur H p c m) : EvP (tLst ta) σ H (LsR R p c n) := fun H1 e Q q => do_lst (h H1 e _ fun vs H2 e2 ln hv => ⟨sz_of (by omega), fun a na => by
  obtain ⟨ap, ac⟩ := (pu.ex (e.trans e2)).fresh na
  exact q _ _ (e2.trans (Ex.new na)) ⟨a, vs, rfl, upd_same, ap, ac, ln, fun x hx => st _ _ _ (Ex.new na) (hv x hx)⟩⟩)
theorem ep_catR {t1 t2 : TE} {n1 n2 : Nat} (st : ∀ v H H', Ex H H' → R v H → R v H') (h1 : EvP t1 σ H (LsR R p c n1)) (h2 : EvP t2 σ H (LsR R p c n2)) (l : n1 + n2 ≤ 1000) (pu : Pur H p c m) : EvP (tOp rCat t1 t2) σ H (LsR R p c (n1 + n2)) := fun H1 e Q q => do_op (h1 H1 e _ fun v H2 e2 hv => h2 H2 (e.trans e2) _ fun u H3 e3 hu => by
  obtain ⟨l1, xs, rfl, hx, _, _, ln, all⟩ := LsR.ex st e3 hv
  obtain ⟨l2, ys, rfl, hy, _, _, ln2, all2⟩ := hu
  refine ⟨l1, l2, xs, ys, rfl, rfl, hx, hy, sz_of (by omega), fun r nr => ?_⟩
  obtain ⟨ap, ac⟩ := (pu.ex ((e.trans e2).trans e3)).fresh nr
  refine q _ _ ((e2.trans e3).trans (Ex.new nr)) ⟨r, xs ++ ys, rfl, upd_same, ap, ac, by rw [List.length_append, ln, ln2], fun x hx => ?_⟩
  rcases List.mem_append.mp hx with z | z
  · exact st _ _ _ (Ex.new nr) (all x z)
  · exact st _ _ _ (Ex.new nr) (all2 x z))
end
def intD (k : Nat) : PyData := .int ((k : Nat) : Int)
/-! ### data by what it is -/
section
variable {K : PySem.W.Frag} {σ : L2.St} {H H' : Hp} {n m t : Nat} {p c : Addr} {ta : TA} {te tb : TE} {φ ψ : PyData → Prop} {v : V} {d : PyData} {ds es : List PyData}
theorem el_listT {xs : List V} {p : Addr} (h : Ev te σ H (.ref p)) (hp : SqT K H p xs) : EvL (tCB (rListS K) (tCons te tNil)) σ H xs := fun H1 e Q q =>
  h H1 e _ fun H2 e2 => ⟨p, xs, rfl, .inr (ex_t (e.trans e2) hp), fun l nl => q l _ (fresh_back e2 nl) (e2.trans (Ex.new nl)) upd_same⟩
/-- data of a kind -/
def DzP (K : PySem.W.Frag) (p c : Addr) (φ : PyData → Prop) (v : V) (H : Hp) : Prop := ∃ d, Dz K p c H v d ∧ φ d
theorem DzP.ex (e : Ex H H') (h : DzP K p c φ v H) : DzP K p c φ v H' := let ⟨d, z, f⟩ := h; ⟨d, z.ex e, f⟩
theorem DzP.st : ∀ v H H', Ex H H' → DzP K p c φ v H → DzP K p c φ v H' := fun _ _ _ e h => h.ex e
theorem DzP.off (pu : Pur H p c t) (o : Off H H' p c) (h : DzP K p c φ v H) : DzP K p c φ v H' := let ⟨d, z, f⟩ := h; ⟨d, z.off pu o, f⟩
theorem DzP.imp (h : DzP K p c φ v H) (i : ∀ d, φ d → ψ d) : DzP K p c ψ v H := let ⟨d, z, f⟩ := h; ⟨d, z, i d f⟩
def TD (K : PySem.W.Frag) (p c : Addr) (ds : List PyData) (v : V) (H : Hp) : Prop := ∃ xs, TV K H v xs ∧ DzAll K p c H xs ds
theorem TD.ex (e : Ex H H') (h : TD K p c ds v H) : TD K p c ds v H' := let ⟨xs, a, b⟩ := h; ⟨xs, a.ex e, b.ex e⟩
theorem TD.off (pu : Pur H p c t) (o : Off H H' p c) (h : TD K p c ds v H) : TD K p c ds v H' := let ⟨xs, ⟨a, ev, s⟩, b⟩ := h; ⟨xs, ⟨a, ev, o.et pu _ _ s⟩, b.off pu o⟩
theorem TD.dz (h : TD K p c ds v H) : Dz K p c H v (.tuple ds) := by
  obtain ⟨xs, ⟨a, rfl, s⟩, b⟩ := h
  exact .tup s b
theorem td_ev (h : Ev te σ H v) (t : TD K p c ds v H) : EvP te σ H (TD K p c ds) := ep_ev h fun _ e => t.ex e
theorem td_dz (h : EvP te σ H (TD K p c ds)) : EvP te σ H (fun v H' => Dz K p c H' v (.tuple ds)) := h.imp fun _ _ _ z => z.dz
theorem cat_at {Q : VK} {x y : V} (ha : TD K p c ds x H) (hb : TD K p c es y H) (hl : ds.length + es.length ≤ 100000) (q : ∀ v H', Ex H H' → TD K p c (ds ++ es) v H' → Q v H') : rCatA K x y H Q := by
  obtain ⟨xs, ⟨a, rfl, sa⟩, za⟩ := ha
  obtain ⟨ys, ⟨b, rfl, sb⟩, zb⟩ := hb
  have la := za.len
  have lb := zb.len
  refine ⟨a, b, xs, ys, rfl, rfl, sa, sb, sz_of (by omega), fun z => ?_, fun _ z => ?_, fun _ _ p np => ?_⟩
  · subst z
    exact q _ H (Ex.refl _) ⟨ys, ⟨b, rfl, sb⟩, DzAll.app za zb⟩
  · subst z
    exact q _ H (Ex.refl _) ⟨xs, ⟨a, rfl, sa⟩, by have := DzAll.app za zb; rw [List.append_nil] at this; exact this⟩
  · exact q _ _ (Ex.new np) ⟨_, ⟨p, rfl, st_of upd_same⟩, (DzAll.app za zb).ex (Ex.new np)⟩
theorem td_cat (ha : EvP te σ H (TD K p c ds)) (hb : EvP tb σ H (TD K p c es)) (hl : ds.length + es.length ≤ 100000) : EvP (tOp (rCatA K) te tb) σ H (TD K p c (ds ++ es)) := fun H1 e1 Q q =>
  do_op (ha H1 e1 _ fun v H2 e2 hv => hb H2 (e1.trans e2) _ fun u H3 e3 hu => cat_at (hv.ex e3) hu hl fun x H4 e4 hx => q x H4 ((e2.trans e3).trans e4) hx)
/-- what is written one behind the other -/
def EvDs (K : PySem.W.Frag) (p c : Addr) (ds : List PyData) (ta : TA) (σ : L2.St) (H : Hp) : Prop := Dw.EvAP ta σ H (fun vs H' => DzAll K p c H' vs ds)
theorem eds_nil : EvDs K p c [] tNil σ H := fun H1 _ Q q => q [] H1 (Ex.refl _) .nil
theorem eds_cons (h : EvP te σ H (fun v H' => Dz K p c H' v d)) (hr : EvDs K p c ds ta σ H) : EvDs K p c (d :: ds) (tCons te ta) σ H := fun H1 e Q q => do_cons (h H1 e _ fun v H2 e2 hv => hr H2 (e.trans e2) _ fun vs H3 e3 hvs => q _ H3 (e2.trans e3) (.cons (hv.ex e3) hvs))
theorem td_tup (h : EvDs K p c ds ta σ H) (l : ds.length ≤ 100000) : EvP (tTup ta) σ H (TD K p c ds) := fun H1 e Q q => do_tup (h H1 e _ fun vs H2 e2 hvs => ⟨sz_of (by rw [hvs.len]; exact l), fun a na => q _ _ (e2.trans (Ex.new na)) ⟨vs, ⟨a, rfl, st_of upd_same⟩, hvs.ex (Ex.new na)⟩⟩)
theorem dz_tup (h : EvDs K p c ds ta σ H) (l : ds.length ≤ 100000) : EvP (tTup ta) σ H (fun v H' => Dz K p c H' v (.tuple ds)) := td_dz (td_tup h l)
theorem dz_lst (h : EvDs K p c ds ta σ H) (l : ds.length ≤ 100000) (pu : Pur H p c t) : EvP (tLst ta) σ H (fun v H' => Dz K p c H' v (.list ds)) := fun H1 e Q q => do_lst (h H1 e _ fun vs H2 e2 hvs => ⟨sz_of (by rw [hvs.len]; exact l), fun a na => by
  obtain ⟨ap, ac⟩ := (pu.ex (e.trans e2)).fresh na
  exact q _ _ (e2.trans (Ex.new na)) (.lst upd_same ap ac (hvs.ex (Ex.new na)))⟩)
theorem dz_ev (h : Ev te σ H v) (z : Dz K p c H v d) : EvP te σ H (fun v H' => Dz K p c H' v d) := ep_ev h fun _ e => z.ex e
theorem dz_int {i : Int} (h : Ev te σ H (.int i)) : EvP te σ H (fun v H' => Dz K p c H' v (.int i)) := ep_ev h fun _ _ => .int i
theorem dz_nat {i : Nat} (h : Ev te σ H (vi i)) : EvP te σ H (fun v H' => Dz K p c H' v (intD i)) := ep_ev h fun _ _ => .int _
theorem dz_str {x : Str} (h : Ev te σ H (.str x)) : EvP te σ H (fun v H' => Dz K p c H' v (.str x)) := ep_ev h fun _ _ => .str x
theorem dz_non (h : Ev te σ H .non) : EvP te σ H (fun v H' => Dz K p c H' v .none) := ep_ev h fun _ _ => .non
theorem cut_last {xs : List V} (h : 1 ≤ xs.length) : cutV xs none (some (-1)) = xs.take (xs.length - 1) := by
  have e : HT.sIx xs.length xs.length (some (-1)) = xs.length - 1 := by
    have e1 : HT.sIx xs.length xs.length (some (-1)) = ((-1 : Int) + (xs.length : Int)).toNat := by
      unfold HT.sIx
      exact if_pos (by decide)
    rw [e1]
    omega
  unfold cutV
  rw [e, HT.sIx_none, Nat.sub_zero, List.drop_zero]
theorem td_last (h : EvP te σ H (TD K p c ds)) (l : 1 ≤ ds.length) {tk : TE} (hk : Ev tk σ H (.int (-1))) : EvP (tSl (rSlA K) te tNoPart (tPart tk)) σ H (TD K p c (ds.take (ds.length - 1))) := fun H1 e Q q =>
  h H1 e _ fun v H2 e2 hv => by
    obtain ⟨xs, hT, z⟩ := hv
    refine tv_sl (K := K) (te := fun _ H Q => Q v H) (σ := σ) (H := H2) (fun H3 e3 Q3 q3 => q3 v H3 (Ex.refl _) (hT.ex e3)) eo_none (eo_some fun H3 e3 => hk H3 ((e.trans e2).trans e3)) H2 (Ex.refl _) _ fun x H3 e3 hx => q x H3 (e2.trans e3) ⟨_, hx, ?_⟩
    rw [cut_last (by rw [z.len]; exact l), z.len]
    exact (z.take _).ex e3
theorem ev_neg1 : Ev (tUn (fun x H Q => ∃ i, x = .int i ∧ Q (.int (-i)) H) (tC (.int 1))) σ H (.int (-1)) := ev_un (z := .int (-1)) ev_c (fun H1 _ Q q => ⟨1, rfl, q H1 (Ex.refl _)⟩)
theorem nats_td {ns : List Nat} (h : Nats K H v ns) : TD K p c (ns.map intD) v H := by
  obtain ⟨a, rfl, s⟩ := h
  refine ⟨_, ⟨a, rfl, s⟩, ?_⟩
  clear s
  induction ns with
  | nil => exact .nil
  | cons x t ih => exact .cons (.int _) ih
end
end K22
end
section
namespace K22
open PySem PySem.Spec PyProof.Rows L2 Evl RZ Dw M20 M25 CL LK
def natOf : PyData → Nat
  | .int i => i.toNat
  | _ => 0
theorem below_nat {K : PySem.W.Frag} {p c : Addr} {H : Hp} {v : V} {n : Nat} {e : PyData} (h : Dz K p c H v e) (b : belowB n e = true) : v = vi (natOf e) ∧ natOf e < n := by
  cases h with
  | int i =>
    rw [belowB, Bool.and_eq_true, decide_eq_true_eq, decide_eq_true_eq] at b
    refine ⟨?_, ?_⟩
    · show V.int i = V.int ((i.toNat : Nat) : Int)
      rw [Int.toNat_of_nonneg b.1]
    · show i.toNat < n
      omega
  | _ => cases b
def unlB (n : Nat) (ds : List PyData) : Bool := ds.all (belowB n) && decide ((ds.map natOf).Nodup)
def ordB (n : Nat) : PyData → Bool
  | .tuple ds => decide (ds.length = n) && unlB n ds
  | _ => false
def lenD : PyData → Nat
  | .tuple ds => ds.length
  | _ => 0
theorem nodup_snoc {l : List Nat} {x : Nat} (h : l.Nodup) (n : x ∉ l) : (l ++ [x]).Nodup := List.nodup_append.mpr ⟨h, List.nodup_cons.mpr ⟨(by intro z; cases z), List.nodup_nil⟩, fun a ha b hb e => n (by rw [← List.mem_singleton.mp hb, ← e]; exact ha)⟩
theorem tabs_gd {sg : List (Str × Nat)} {n : Nat} {ts : List (List Nat)} (m : MdlOk sg n ts) (so : SigOk sg) : (∀ t ∈ ts, (∀ k ∈ t, k ≤ 1000) ∧ t.length ≤ 36) ∧ ts.length ≤ 4 := by
  refine ⟨fun t ht => ?_, by rw [m.len]; exact so.l4⟩
  obtain ⟨i, hi⟩ := List.mem_iff_getElem?.mp ht
  obtain ⟨il, e⟩ := List.getElem?_eq_some_iff.mp hi
  have il2 : i < sg.length := by rw [← m.len]; exact il
  have tb := m.tab i il2 il
  rw [e] at tb
  have := m.n6
  exact ⟨fun k hk => by have := tab_low tb k hk; omega, tab_len tb m.n6 (so.pl _ (List.getElem_mem il2))⟩
/-- the word s -/
def isS (s : Str) : PyData → Bool
  | .str z => decide (z = s)
  | _ => false
theorem eqv_isS (s : Str) (d : PyData) : PyData.eqv d (.str s) = isS s d := by
  cases d with
  | str z =>
    rw [PyData.eqv]
    exact Bool.eq_iff_iff.mpr (by simp [isS])
  | _ => simp [PyData.eqv, isS]
theorem isS_eqv (s : Str) (d : PyData) : PyData.eqv (.str s) d = isS s d := by
  cases d with
  | str z =>
    rw [PyData.eqv]
    show decide (s = z) = decide (z = s)
    exact decide_eq_decide.mpr ⟨fun y => y.symm, fun y => y.symm⟩
  | _ => simp [PyData.eqv, isS]
/-- a row of so many numbers below -/
def rowB (m n : Nat) : PyData → Bool
  | .tuple ds => decide (ds.length = m) && ds.all (belowB n)
  | _ => false
def natsT : PyData → List Nat
  | .tuple ds => ds.map natOf
  | _ => []
section
variable {P : Program} {w : World} {K : PySem.W.Frag} {mg : Str → Option Value} {base : Heap} {σ : L2.St} {H : Hp} {ta tb : TE} {p c : Addr} {v : V} {d : PyData} {n m t : Nat}
theorem tup_of (h : Dz K p c H v d) (hs : isTup d = true) : ∃ a us ds, v = .ref a ∧ d = .tuple ds ∧ SqT K H a us ∧ DzAll K p c H us ds := by
  cases h with
  | @tup a us ds hS r => exact ⟨a, us, ds, rfl, rfl, hS, r⟩
  | non => cases hs
  | bl b => cases hs
  | int i => cases hs
  | str z => cases hs
  | lst _ _ _ _ => cases hs
theorem below_all {n : Nat} : ∀ {vs : List V} {ds : List PyData}, DzAll K p c H vs ds → ds.all (belowB n) = true → vs = (ds.map natOf).map vi ∧ ∀ y ∈ ds.map natOf, y < n
  | _, _, .nil, _ => ⟨rfl, fun y hy => by cases hy⟩
  | _, _, .cons a b, h => by
    rw [List.all_cons, Bool.and_eq_true] at h
    obtain ⟨h1, h2⟩ := below_nat a h.1
    obtain ⟨h3, h4⟩ := below_all b h.2
    refine ⟨by rw [List.map_cons, List.map_cons, h1, h3], fun y hy => ?_⟩
    rw [List.map_cons] at hy
    rcases List.mem_cons.mp hy with e | e
    · rw [e]; exact h2
    · exact h4 y e
theorem ord_own {k : Nat} (h : Dz K p c H v d) (b : ordB k d = true) : Nats K H v (natsT d) ∧ Ord k (natsT d) := by
  have ht : isTup d = true := by cases d <;> first | rfl | cases b
  obtain ⟨a, xs, ds, rfl, rfl, hA, hD⟩ := tup_of h ht
  have b2 : (decide (ds.length = k) && (ds.all (belowB k) && decide ((ds.map natOf).Nodup))) = true := b
  rw [Bool.and_eq_true, Bool.and_eq_true, decide_eq_true_eq, decide_eq_true_eq] at b2
  obtain ⟨e, low⟩ := below_all hD b2.2.1
  refine ⟨⟨a, rfl, by show SqT K H a ((ds.map natOf).map vi); rw [← e]; exact hA⟩, bg_ord.mp ⟨by show (ds.map natOf).length = k; rw [List.length_map]; exact b2.1, low, b2.2.2⟩⟩
def sp_unlike_any (K : PySem.W.Frag) : Sp := spX (fun (z : (Addr × Addr) × List PyData × Nat) vs H => (∃ a xs, vs = [.ref a, vi z.2.2] ∧ SqT K H a xs ∧ DzAll K z.1.1 z.1.2 H xs z.2.1) ∧ z.2.2 ≤ 1000) (fun z v _ => v = .bl (unlB z.2.2 z.2.1))
theorem c_unlike_any (T : Txt mg) (D : Df K mg "are_unlike_below" s_are_unlike_below ["things", "size"]) (c_below_any : Cl P w K mg base 2 "is_below" (sp_below_any K)) : Cl P w K mg base 3 "are_unlike_below" (sp_unlike_any K) := by
  refine cl_of (k := 2) D sc_are_unlike_below (fun vs H Q E h => ?_) (fun f cdv A outer s H vs Q E hr h => ?_)
  · obtain ⟨z, ⟨⟨a, xs, rfl, _⟩, _⟩, _⟩ := h
    rfl
  · obtain ⟨⟨⟨p, c⟩, ds, n⟩, ⟨⟨a, xs, rfl, hS, hd⟩, n1⟩, q⟩ := h
    have c_is_below := c_below_any
    refine ⟨_, (pss_cons (ps_set (i := 2) sc_are_unlike_below.nd rfl (.inl rfl) (pe_op op_rep (pe_lst (pa_cons pe_bl pa_nil)) (pv 1)))
      (pss_cons (ps_for PassesOwn.never (by rfl) (pi_tup (pv 0)) (pg_name (i := 3) sc_are_unlike_below.nd rfl (.inl rfl))
        (pss_cons (ps_if (PW.pt (pw_or (pt_not (pt_val (pe_cl c_is_below hr (by first | decide | omega) (by rfl) (pa_cons (pv 3) (pa_cons (pv 1) pa_nil))))) (pw_or1 (pt_val (pe_ix ix_list (pv 2) (pv 3) (fun _ _ => rfl))))))
          (pss_one (ps_ret pe_bl))
          pss_nil)
        (pss_one (ps_asg pe_bl (pg_sub (pv 2) (pv 3) set_list)))))
      (pss_one (ps_ret pe_bl)))), ?_⟩
    replace hd : DzAll K p c H xs ds := hd
    replace n1 : n ≤ 1000 := n1
    replace q : ∀ r H', Ex H H' → r = .bl (unlB n ds) → Q r H' := q
    have lx := hd.len
    refine q_asgL (el_rep (el_lst (ea_cons ev_c ea_nil) (by decide)) (ev_var rfl) (by show 1 * n ≤ _; omega) (by show n ≤ 100000; omega)) fun m H2 nm e2 hm => ?_
    rw [rep1] at hm
    refine q_forT (ev_var rfl) (ex_t e2 hS) (fun i σ H' => Ex H H' ∧ H' m = some (.lst ((List.range n).map fun k => V.bl (decide (k ∈ (ds.take i).map natOf)))) ∧ (ds.take i).all (belowB n) = true ∧ ((ds.take i).map natOf).Nodup ∧ ∃ y, σ = [some (.ref a), some (vi n), some (.ref m), y]) (fun H3 e3 => ⟨e2.trans e3, by
        rw [e3 _ _ hm]
        congr 2
        rw [List.take_zero]
        show List.replicate n (V.bl false) = (List.range n).map fun k => V.bl (decide (k ∈ ([] : List Nat)))
        rw [show (fun k => V.bl (decide (k ∈ ([] : List Nat)))) = fun _ => V.bl false from funext fun k => by rw [decide_eq_false (by intro z; cases z)], List.map_const', List.length_range], rfl, List.nodup_nil, none, rfl⟩) (fun i σ H' _ ⟨e, _⟩ => ex_t e hS) (fun i x σ H3 hx ⟨e3, hm3, al, nd, y, hσ⟩ => ?_) (fun σ H3 ⟨e3, hm3, al, nd, y, hσ⟩ => ?_)
    · subst hσ
      obtain ⟨e, he, hz⟩ := hd.get hx
      have il : i < ds.length := (List.getElem?_eq_some_iff.mp he).1
      have tk : ds.take (i + 1) = ds.take i ++ [e] := by rw [List.take_add_one, he]; rfl
      have spl : ds = ds.take i ++ (e :: ds.drop (i + 1)) := by
        conv => lhs; rw [← List.take_append_drop i ds, List.drop_eq_getElem_cons il]
        rw [(List.getElem?_eq_some_iff.mp he).2]
      have bel : Ev (tCall (sp_below_any K) [] E0 (tCons (tVar 3) (tCons (tVar 1) tNil))) [some (.ref a), some (vi n), some (.ref m), some x] H3 (.bl (belowB n e)) := ev_callV ((p, c), e, ((n : Nat) : Int)) (ea_cons (ev_var rfl) (ea_cons (ev_var rfl) ea_nil)) (fun H4 e4 => ⟨x, rfl, hz.ex (e3.trans e4)⟩) (fun _ _ z => z)
      by_cases hb : belowB n e = true
      · obtain ⟨rfl, lt⟩ := below_nat hz hb
        have at0 : ((List.range n).map fun k => V.bl (decide (k ∈ (ds.take i).map natOf)))[natOf e]? = some (.bl (decide (natOf e ∈ (ds.take i).map natOf))) := by
          rw [List.getElem?_map, List.getElem?_range lt]
          rfl
        refine q_when (b := decide (natOf e ∈ (ds.take i).map natOf)) (et_is (et_or (a := false) (et_is (et_not (et_val bel)) (by rw [hb]; rfl)) (fun _ => et_val (ev_op (ev_var rfl) (ev_var rfl) (rv_ixL (K := K) (sq_of hm3) (atI_vi at0))))) (by rw [Bool.false_or])) (fun hd2 H4 e4 => ?_) (fun hd2 H4 e4 => ?_)
        · have mem := of_decide_eq_true hd2
          refine s_ret (v := .bl false) ev_c fun H5 e5 => q _ H5 ((e3.trans e4).trans e5) ?_
          have : unlB n ds = false := by
            unfold unlB
            rw [Bool.and_eq_false_iff]
            refine .inr (decide_eq_false fun z => ?_)
            rw [spl, List.map_append, List.map_cons] at z
            exact (List.nodup_append.mp z).2.2 _ mem _ (List.mem_cons_self ..) rfl
          rw [this]
        · have nmem := of_decide_eq_false hd2
          refine s_setL (e4 _ _ hm3) ev_c (ev_var rfl) (ev_var rfl) (by rw [List.length_map, List.length_range]; exact lt) (fun H5 e5 => ⟨((e3.trans e4).trans e5).mut nm, ?_, ?_, ?_, _, rfl⟩)
          · rw [upd_same]
            congr 2
            apply List.ext_getElem?
            intro j
            rw [List.getElem?_set, List.length_map, List.length_range, List.getElem?_map, List.getElem?_map]
            by_cases hj : j < n
            · rw [List.getElem?_range hj]
              by_cases ej : natOf e = j
              · rw [if_pos ej, if_pos lt]
                show _ = some (V.bl (decide (j ∈ (ds.take (i + 1)).map natOf)))
                rw [tk, List.map_append, decide_eq_true (List.mem_append_right _ (by rw [← ej]; exact List.mem_singleton.mpr rfl))]
              · rw [if_neg ej]
                show some (V.bl (decide (j ∈ (ds.take i).map natOf))) = some (V.bl (decide (j ∈ (ds.take (i + 1)).map natOf)))
                congr 2
                rw [tk, List.map_append]
                refine decide_eq_decide.mpr ⟨fun z => List.mem_append_left _ z, fun z => ?_⟩
                rcases List.mem_append.mp z with z | z
                · exact z
                · exact absurd (List.mem_singleton.mp z).symm ej
            · rw [if_neg (by omega), List.getElem?_eq_none_iff.mpr (by rw [List.length_range]; omega)]
              rfl
          · rw [tk, List.all_append, al]
            show (true && (belowB n e && true)) = true
            rw [hb]
            rfl
          · rw [tk, List.map_append]
            exact nodup_snoc nd nmem
      · have hb2 : belowB n e = false := by simpa using hb
        refine q_when (b := true) (et_is (et_or (a := true) (b := false) (et_is (et_not (et_val bel)) (by rw [hb2]; rfl)) (fun z => by cases z)) rfl) (fun _ H4 e4 => ?_) (fun z => by cases z)
        refine s_ret (v := .bl false) ev_c fun H5 e5 => q _ H5 ((e3.trans e4).trans e5) ?_
        have : unlB n ds = false := by
          unfold unlB
          rw [Bool.and_eq_false_iff]
          refine .inl ?_
          rw [spl, List.all_append, List.all_cons, hb2]
          simp
        rw [this]
    · subst hσ
      rw [lx, List.take_length] at al nd
      refine s_ret (v := .bl true) ev_c fun H4 e4 => q _ H4 (e3.trans e4) ?_
      unfold unlB
      rw [al, decide_eq_true nd]
      rfl
def sp_order_any (K : PySem.W.Frag) : Sp := spX (fun (z : (Addr × Addr) × PyData × Nat) vs H => (∃ v, vs = [v, vi z.2.2] ∧ Dz K z.1.1 z.1.2 H v z.2.1) ∧ z.2.2 ≤ 1000) (fun z v _ => v = .bl (ordB z.2.2 z.2.1))
theorem c_order_any (T : Txt mg) (D : Df K mg "is_order" s_is_order ["thing", "size"]) (c_unlike_any : Cl P w K mg base 3 "are_unlike_below" (sp_unlike_any K)) : Cl P w K mg base 4 "is_order" (sp_order_any K) := by
  refine cl_of (k := 3) D sc_is_order (fun vs H Q E h => ?_) (fun f cdv A outer s H vs Q E hr h => ?_)
  · obtain ⟨z, ⟨⟨v, rfl, _⟩, _⟩, _⟩ := h
    rfl
  · obtain ⟨⟨⟨p, c⟩, d, n⟩, ⟨⟨v, rfl, hv⟩, n1⟩, q⟩ := h
    have c_are_unlike_below := c_unlike_any
    refine ⟨_, (pss_one (ps_ret (pe_and (pe_callB call_isi (by rfl) T.z_isinstance (by decide +kernel) (pa_cons (pv 0) (pa_cons (pe_ty "tuple" (by rfl) T.z_tuple (by decide +kernel)) pa_nil))) (pe_and (pe_cmpR op_eq (pe_callB call_len_seq (by rfl) T.z_len PySem.boot_len (pa_cons (pv 0) pa_nil)) (pv 1) (nomark _)) (pe_one (pe_cl c_are_unlike_below hr (by first | decide | omega) (by rfl) (pa_cons (pv 0) (pa_cons (pv 1) pa_nil)))))))), ?_⟩
    replace hv : Dz K p c H v d := hv
    replace n1 : n ≤ 1000 := n1
    replace q : ∀ r H', Ex H H' → r = .bl (ordB n d) → Q r H' := q
    by_cases ht : isTup d = true
    · obtain ⟨a, xs, ds, rfl, rfl, hA, hD⟩ := tup_of hv ht
      have lx := hD.len
      refine s_ret (ev_andV (a := true) (ev_isTup (K := K) (ev_var rfl) ev_c hv) (fun _ => ev_andV (a := decide (ds.length = n)) (ev_is (ev_op (ev_lenT (ev_var rfl) hA) (ev_var rfl) (rv_eq rfl)) (by
        congr 1
        rw [lx]
        exact decide_eq_decide.mpr ⟨fun y => by have : ((ds.length : Nat) : Int) = (n : Int) := V.int.inj y; omega, fun y => by rw [y]⟩)) (fun _ => ev_callV (v := .bl (unlB n ds)) ((p, c), ds, n) (ea_cons (ev_var rfl) (ea_cons (ev_var rfl) ea_nil)) (fun H1 e1 => ⟨⟨_, _, rfl, ex_t e1 hA, DzAll.ex e1 hD⟩, n1⟩) (fun _ _ z => z)))) fun H1 e1 => q _ H1 e1 ?_
      rw [Bool.true_and]
      rfl
    · have ht2 : isTup d = false := by simpa using ht
      refine s_ret (ev_andV (a := false) (b := false) (ev_is (ev_isTup (K := K) (ev_var rfl) ev_c hv) (by rw [ht2])) (fun z => by cases z)) fun H1 e1 => q _ H1 e1 ?_
      cases d <;> first | rfl | cases ht2
theorem rowB_nats (h : Dz K p c H v d) (b : rowB m n d = true) : Nats K H v (natsT d) ∧ (natsT d).length = m ∧ ∀ y ∈ natsT d, y < n := by
  have ht : isTup d = true := by cases d <;> first | rfl | cases b
  obtain ⟨a, xs, ds, rfl, rfl, hA, hD⟩ := tup_of h ht
  have b2 : (decide (ds.length = m) && ds.all (belowB n)) = true := b
  rw [Bool.and_eq_true, decide_eq_true_eq] at b2
  obtain ⟨e, low⟩ := below_all hD b2.2
  exact ⟨⟨a, rfl, by show SqT K H a ((ds.map natOf).map vi); rw [← e]; exact hA⟩, by show (ds.map natOf).length = m; rw [List.length_map]; exact b2.1, low⟩
def sp_row_any (K : PySem.W.Frag) : Sp := spX (fun (z : (Addr × Addr) × PyData × Nat × Nat) vs H => (∃ v, vs = [v, vi z.2.2.1, vi z.2.2.2] ∧ Dz K z.1.1 z.1.2 H v z.2.1) ∧ z.2.2.1 ≤ 1000) (fun z v _ => v = .bl (rowB z.2.2.1 z.2.2.2 z.2.1))
theorem c_row_any (T : Txt mg) (D : Df K mg "is_row" s_is_row ["thing", "many", "size"]) (c_below_any : Cl P w K mg base 2 "is_below" (sp_below_any K)) : Cl P w K mg base 3 "is_row" (sp_row_any K) := by
  refine cl_of (k := 2) D sc_is_row (fun vs H Q E h => ?_) (fun f cdv A outer s H vs Q E hr h => ?_)
  · obtain ⟨z, ⟨⟨v, rfl, _⟩, _⟩, _⟩ := h
    rfl
  · obtain ⟨⟨⟨p, c⟩, d, m, n⟩, ⟨⟨v, rfl, hv⟩, few⟩, q⟩ := h
    have c_is_below := c_below_any
    refine ⟨_, (pss_one (ps_ret (pe_and (pe_callB call_isi (by rfl) T.z_isinstance (by decide +kernel) (pa_cons (pv 0) (pa_cons (pe_ty "tuple" (by rfl) T.z_tuple (by decide +kernel)) pa_nil))) (pe_and (pe_cmpR op_eq (pe_callB call_len_seq (by rfl) T.z_len PySem.boot_len (pa_cons (pv 0) pa_nil)) (pv 1) (nomark _)) (pe_one (pe_callB (cr_all rfl) (by rfl) T.z_all (by decide +kernel) (pa_cons (pe_lc (own := [("number", 3)]) (g := (gName 3)) (by rfl) sc_is_row.nd (pi_tup (pv 0)) (blkOk_by (own := [("number", 3)]) (N := ["thing", "many", "size", "number"]) (sc := (defScope s_is_row)) (by decide +kernel)) (fun _ _ _ _ _ => (pg_name (i := 3) sc_is_row.nd rfl (.inl rfl))) (fun _ _ _ _ _ => pts_nil) (fun _ _ _ _ _ => (pe_cl c_is_below hr (by first | decide | omega) (by rfl) (pa_cons (pv 3) (pa_cons (pv 2) pa_nil))))) pa_nil))))))), ?_⟩
    replace hv : Dz K p c H v d := hv
    replace few : m ≤ 1000 := few
    replace q : ∀ r H', Ex H H' → r = .bl (rowB m n d) → Q r H' := q
    by_cases ht : isTup d = true
    · obtain ⟨a, xs, ds, rfl, rfl, ha, hd⟩ := tup_of hv ht
      have lx := DzAll.len hd
      refine s_ret (v := .bl (rowB m n (.tuple ds))) (ev_is (ev_andV (a := true) (b := decide (ds.length = m) && ds.all (belowB n)) (ev_isi (ev_var rfl) ev_c (.ty _) (fun _ e => tyx_tup (ex_t e ha)) kit_tt) (fun _ => ev_andV (a := decide (ds.length = m)) (b := ds.all (belowB n)) (ev_is (ev_op (ev_lenT (ev_var rfl) ha) (ev_var rfl) (rv_eq rfl)) ?_) (fun hm => ev_is (ev_all (bs := ds.map (belowB n)) ?_) ?_))) (by rw [Bool.true_and]; rfl)) fun H1 e1 => q _ H1 e1 rfl
      · congr 1
        rw [decide_eq_decide, lx]
        constructor
        · intro z
          have y : (ds.length : Int) = (m : Int) := V.int.inj z
          exact Int.ofNat.inj y
        · intro z
          rw [show ds.length = m from z]
      · have few2 : ds.length ≤ 1000 := by rw [of_decide_eq_true hm]; exact few
        have z := el_lcT (K := K) (tl := tVar 0) (te := tCall (sp_below_any K) [] E0 (tCons (tVar 3) (tCons (tVar 2) tNil))) (σ := [some (.ref a), some (vi m), some (vi n), none]) (j := 3) (vs := [3]) (ev_var rfl) ha (fun i => V.bl (belowB n (ds.getD i .none))) (by rw [lx]; omega) (fun _ => rfl) (fun i x H1 e1 hx => by
          obtain ⟨e, he, hz⟩ := hd.get hx
          refine ev_callV ((p, c), ds.getD i .none, ((n : Nat) : Int)) (ea_cons (ev_var rfl) (ea_cons (ev_var rfl) ea_nil)) (fun H2 e2 => ⟨x, rfl, ?_⟩) (fun _ _ z => z)
          show Dz K p c H2 x (ds.getD i .none)
          rw [List.getD_eq_getElem?_getD, he]
          exact hz.ex (e1.trans e2))
        have e : (List.range xs.length).map (fun i => V.bl (belowB n (ds.getD i .none))) = (ds.map (belowB n)).map V.bl := by
          have h1 : (List.range ds.length).map (fun i => V.bl (belowB n (ds.getD i .none))) = (((List.range ds.length).map fun i => ds.getD i PyData.none).map (belowB n)).map V.bl := by
            rw [List.map_map, List.map_map]
            rfl
          rw [lx, h1, Dw.range_getD]
        rw [e] at z
        exact z
      · rw [List.all_map]
        rfl
    · have ht2 : isTup d = false := by simpa using ht
      refine s_ret (ev_andV (a := false) (b := false) (ev_is (ev_isTup (K := K) (ev_var rfl) ev_c hv) (by rw [ht2])) (fun z => by cases z)) fun H1 e1 => q _ H1 e1 ?_
      cases d <;> first | rfl | cases ht2
/-! ### whether an order leads there -/
def leadsB (x y : MArg) (d : PyData) : Bool := ordB x.2.1 d && decide (rens x.2.1 (natsT d) x.1 x.2.2 = y.2.2)
def sp_leads_any (K : PySem.W.Frag) : Sp := spX (fun (z : (Addr × Addr) × MArg × MArg × PyData) vs H => (∃ u v w y, vs = [u, v, w, y] ∧ MA K H u v z.2.1 ∧ Mdl K H w z.2.2.1.2.1 z.2.2.1.2.2 ∧ Dz K z.1.1 z.1.2 H y z.2.2.2) ∧ Two z.2.1 z.2.2.1) (fun z v _ => v = .bl (leadsB z.2.1 z.2.2.1 z.2.2.2))
theorem c_leads_any (T : Txt mg) (D : Df K mg "leads_there" s_leads_there ["signature", "one", "other", "order"]) (c_order_any : Cl P w K mg base 4 "is_order" (sp_order_any K)) (c_renamed_tables : Cl P w K mg base 3 "renamed_tables" (sp_renamed_tables K)) : Cl P w K mg base 5 "leads_there" (sp_leads_any K) := by
  refine cl_of (k := 4) D sc_leads_there (fun vs H Q E h => ?_) (fun f cdv A outer s H vs Q E hr h => ?_)
  · obtain ⟨z, ⟨⟨u, v, w, y, rfl, _⟩, _⟩, _⟩ := h
    rfl
  · obtain ⟨⟨⟨p0, c0⟩, p, p2, d⟩, ⟨⟨u, v, w, y, rfl, hm, hw, hy⟩, tw⟩, q⟩ := h
    have c_is_order := c_order_any
    refine ⟨_, (pss_one (ps_ret (pe_and (pe_cl c_is_order hr (by first | decide | omega) (by rfl) (pa_cons (pv 3) (pa_cons (pe_ix ix_tup (pv 1) pe_int (fun _ _ => rfl)) pa_nil))) (pe_one (pe_cmpR (op_eqD hr.units) (pe_cl c_renamed_tables hr (by first | decide | omega) (by rfl) (pa_cons (pv 0) (pa_cons (pe_ix ix_tup (pv 1) pe_int (fun _ _ => rfl)) (pa_cons (pe_ix ix_tup (pv 1) pe_int (fun _ _ => rfl)) (pa_cons (pv 3) pa_nil))))) (pe_ix ix_tup (pv 2) pe_int (fun _ _ => rfl)) (nomark _)))))), ?_⟩
    replace hm : MA K H u v p := hm
    replace hw : Mdl K H w p2.2.1 p2.2.2 := hw
    replace hy : Dz K p0 c0 H y d := hy
    replace tw : Two p p2 := tw
    obtain ⟨va, vt, rfl, hva, hvt⟩ := id hm.2
    obtain ⟨wa, wt, rfl, hwa, hwt⟩ := id hw
    have sok : SigOk p.1 := tw.ok.1
    have mok : MdlOk p.1 p.2.1 p.2.2 := tw.ok.2
    have mok2 : MdlOk p2.1 p2.2.1 p2.2.2 := tw.ok2.2
    have sok2 : SigOk p2.1 := tw.ok2.1
    have n6 := mok.n6
    have g2 := tabs_gd mok2 sok2
    refine s_ret (v := .bl (leadsB p p2 d)) (ev_andV (ev_callV (v := .bl (ordB p.2.1 d)) ((p0, c0), d, p.2.1) (ea_cons (ev_var rfl) (ea_cons (ev_op (ev_var rfl) ev_c (rv_ixT (K := K) hva (atI_vi (k := 0) rfl))) ea_nil)) (fun H1 e1 => ⟨⟨_, rfl, hy.ex e1⟩, by show p.2.1 ≤ 1000; omega⟩) (fun _ _ z => z)) (fun hb => ?_)) fun H1 e1 => q _ H1 e1 rfl
    obtain ⟨hr2, ho⟩ := ord_own hy hb
    have g1 := tabs_gd (rens_ok mok sok ho) sok
    exact ev_is (ev_eqDP (K := K) (P1 := fun v H' => Tabs K H' v (rens p.2.1 (natsT d) p.1 p.2.2)) (P2 := fun v H' => Tabs K H' v p2.2.2) (ep_call (p.1, p.2.1, p.2.2, natsT d) (ea_cons (ev_var rfl) (ea_cons (ev_op (ev_var rfl) ev_c (rv_ixT (K := K) hva (atI_vi (k := 0) rfl))) (ea_cons (ev_op (ev_var rfl) ev_c (rv_ixT (K := K) hva (atI_vi (k := 1) rfl))) (ea_cons (ev_var rfl) ea_nil)))) fun H1 e1 => ⟨⟨_, _, _, rfl, hm.1.ex e1, hvt.ex e1, hr2.ex e1⟩, sok, mok, ho⟩) (ep_ev (ev_op (ev_var rfl) ev_c (rv_ixT (K := K) hwa (atI_vi (k := 1) rfl))) fun H1 e1 => hwt.ex e1) (fun v H H' e h => Tabs.ex e h) (fun v H' h => h.dp) (fun v H' h => h.dp) (gd_dT g1.1 g1.2) (gd_dT g2.1 g2.2) (by decide)) (by rw [eqv_dT])
end
end K22
end
section
namespace K22
open PySem PySem.Spec PyProof.Rows L2 Evl RZ Dw M20 M25 CL LK
theorem weight_len : ∀ ds : List PyData, ds.length ≤ PyData.weightAll ds
  | [] => Nat.zero_le _
  | x :: ds => by
    have := weight_len ds
    rw [PyData.weightAll, List.length_cons]
    omega
theorem gdl_mem {k W : Nat} : ∀ {ds : List PyData} {d : PyData}, d ∈ ds → PyData.canLayAll0 ds = true → PyData.depthAll ds ≤ k → PyData.weightAll ds ≤ W → PyData.intsShortAll 13 ds = true → PyData.showableAll ds = true → Gd k W d
  | [], d, h, _, _, _, _, _ => by cases h
  | x :: ds, d, h, g1, g2, g3, g4, g5 => by
    rw [PyData.canLayAll0, Bool.and_eq_true] at g1
    rw [PyData.depthAll] at g2
    rw [PyData.weightAll] at g3
    rw [PyData.intsShortAll, Bool.and_eq_true] at g4
    rw [PyData.showableAll, Bool.and_eq_true] at g5
    rcases List.mem_cons.mp h with e | e
    · rw [e]
      exact ⟨g1.1, by omega, by omega, g4.1, g5.1⟩
    · exact gdl_mem e g1.2 (by omega) (by omega) g4.2 g5.2
theorem gd_mem {k W : Nat} {ds : List PyData} {d : PyData} (g : Gd k W (.tuple ds)) (h : d ∈ ds) : Gd k W d := by
  have g1 := g.lay
  have g2 := g.dep
  have g3 := g.wgt
  have g4 := g.its
  have g5 := g.sho
  rw [PyData.canLay0] at g1
  rw [PyData.depth] at g2
  rw [PyData.weight] at g3
  rw [PyData.intsShort] at g4
  rw [PyData.showable] at g5
  exact gdl_mem h g1 (by omega) g3 g4 g5
theorem gd_memL {k W : Nat} {ds : List PyData} {d : PyData} (g : Gd k W (.list ds)) (h : d ∈ ds) : Gd k W d := by
  have g1 := g.lay
  have g2 := g.dep
  have g3 := g.wgt
  have g4 := g.its
  have g5 := g.sho
  rw [PyData.canLay0] at g1
  rw [PyData.depth] at g2
  rw [PyData.weight] at g3
  rw [PyData.intsShort] at g4
  rw [PyData.showable] at g5
  exact gdl_mem h g1 (by omega) g3 g4 g5
theorem name_cps {z : Str} (h : Name z) : ∀ c ∈ z.cps.toList, c < 0x110000 := fun c hc => by
  have m := h.abc c hc
  have : ∀ c ∈ letters.cps.toList, c < 0x110000 := by decide +kernel
  exact this c m
/-- the papers' form -/
def formP : PyData → Bool
  | .tuple [a] => isS "size" a
  | .tuple [a, _] => isS "map" a || isS "none" a
  | _ => false
def caseB (left : Nat) : PyData → Bool
  | .tuple [a, .list ks] => isS "case" a && (decide (0 < left) && decide (ks.length = left))
  | _ => false
def clashB (x y : MArg) (F : List Nat) : PyData → Bool
  | .tuple [a, nm, r] => isS "clash" a && x.1.any fun d => isS d.1 nm && (rowB d.2 F.length r && bad (sysOf x y) F (d.1, natsT r))
  | _ => false
section
variable {P : Program} {w : World} {K : PySem.W.Frag} {mg : Str → Option Value} {base : Heap} {σ : L2.St} {H : Hp} {ta tb : TE} {p c : Addr} {v : V} {d : PyData} {n m t k W : Nat}
theorem ev_eqS {x : V} {s : Str} (ha : Ev ta σ H x) (hz : Dz K p c H x d) (g : Gd k W d) (hk : k ≤ 60) (hb : Ev tb σ H (.str s)) (hs : SeqAt.shaped (.str s) = true) : Ev (tOp (rEqD K) ta tb) σ H (.bl (isS s d)) := fun H1 e Q q =>
  do_op (ha H1 e _ fun H2 e2 => hb H2 (e.trans e2) _ fun H3 e3 => ⟨d, .str s, (hz.ex ((e.trans e2).trans e3)).dp, .str s, g.shaped hk, hs, by
    rw [eqv_isS]
    exact q H3 (e2.trans e3)⟩)
theorem ev_neS {x : V} {s : Str} (ha : Ev ta σ H x) (hz : Dz K p c H x d) (g : Gd k W d) (hk : k ≤ 60) (hb : Ev tb σ H (.str s)) (hs : SeqAt.shaped (.str s) = true) : Ev (tOp (rNeD K) ta tb) σ H (.bl (!isS s d)) := fun H1 e Q q =>
  do_op (ha H1 e _ fun H2 e2 => hb H2 (e.trans e2) _ fun H3 e3 => ⟨d, .str s, (hz.ex ((e.trans e2).trans e3)).dp, .str s, g.shaped hk, hs, by
    rw [eqv_isS]
    exact q H3 (e2.trans e3)⟩)
theorem len_is {a : Addr} {xs : List V} {j : Nat} (ha : Ev ta σ H (.ref a)) (s : SqT K H a xs) (hb : Ev tb σ H (vi j)) : Ev (tOp rEq (tCB (rLenS K) (tCons ta tNil)) tb) σ H (.bl (decide (xs.length = j))) := ev_is (ev_op (ev_lenT ha s) hb (rv_eq rfl)) (by
  congr 1
  exact decide_eq_decide.mpr ⟨fun z => by have : ((xs.length : Nat) : Int) = (j : Int) := V.int.inj z; omega, fun z => by rw [z]⟩)
theorem len_isL {a : Addr} {xs : List V} {j : Nat} (ha : Ev ta σ H (.ref a)) (s : SqL K H a xs) (hb : Ev tb σ H (vi j)) : Ev (tOp rEq (tCB (rLenS K) (tCons ta tNil)) tb) σ H (.bl (decide (xs.length = j))) := ev_is (ev_op (ev_len (K := K) ha s) hb (rv_eq rfl)) (by
  congr 1
  exact decide_eq_decide.mpr ⟨fun z => by have : ((xs.length : Nat) : Int) = (j : Int) := V.int.inj z; omega, fun z => by rw [z]⟩)
theorem len_ne {a : Addr} {xs : List V} {j : Nat} (ha : Ev ta σ H (.ref a)) (s : SqT K H a xs) (hb : Ev tb σ H (vi j)) : Ev (tOp rNe (tCB (rLenS K) (tCons ta tNil)) tb) σ H (.bl (!decide (xs.length = j))) := ev_is (ev_op (ev_lenT ha s) hb (rv_ne rfl)) (by
  congr 2
  exact decide_eq_decide.mpr ⟨fun z => by have : ((xs.length : Nat) : Int) = (j : Int) := V.int.inj z; omega, fun z => by rw [z]⟩)
/-- the things at the places of a tuple -/
theorem two_dz {xs : List V} {a b : PyData} (h : DzAll K p c H xs [a, b]) : ∃ x y, xs = [x, y] ∧ Dz K p c H x a ∧ Dz K p c H y b := by
  cases h with
  | cons hx h2 =>
    cases h2 with
    | cons hy h3 =>
      cases h3 with
      | nil => exact ⟨_, _, rfl, hx, hy⟩
theorem three_dz {xs : List V} {a b e : PyData} (h : DzAll K p c H xs [a, b, e]) : ∃ x y z, xs = [x, y, z] ∧ Dz K p c H x a ∧ Dz K p c H y b ∧ Dz K p c H z e := by
  cases h with
  | cons hx h2 =>
    obtain ⟨y, z, rfl, hy, hz⟩ := two_dz h2
    exact ⟨_, _, _, rfl, hx, hy, hz⟩
def sp_form_any (K : PySem.W.Frag) : Sp := spX (fun (z : (Addr × Addr) × PyData) vs H => (∃ v, vs = [v] ∧ Dz K z.1.1 z.1.2 H v z.2) ∧ Gd 50 30000 z.2) (fun z v _ => v = .bl (formP z.2))
theorem c_form_any (T : Txt mg) (D : Df K mg "has_paper_form" s_has_paper_form ["paper"]) : Cl P w K mg base 1 "has_paper_form" (sp_form_any K) := by
  refine cl_of (k := 0) D sc_has_paper_form (fun vs H Q E h => ?_) (fun f cdv A outer s H vs Q E hr h => ?_)
  · obtain ⟨z, ⟨⟨v, rfl, _⟩, _⟩, _⟩ := h
    rfl
  · obtain ⟨⟨⟨p, c⟩, d⟩, ⟨⟨v, rfl, hv⟩, g⟩, q⟩ := h
    refine ⟨_, (pss_cons (ps_if (pt_not (pt_val (pe_callB call_isi (by rfl) T.z_isinstance (by decide +kernel) (pa_cons (pv 0) (pa_cons (pe_ty "tuple" (by rfl) T.z_tuple (by decide +kernel)) pa_nil)))))
        (pss_one (ps_ret pe_bl))
        pss_nil)
      (pss_cons (ps_if (pt_cmpR op_eq (pe_callB call_len_seq (by rfl) T.z_len PySem.boot_len (pa_cons (pv 0) pa_nil)) pe_int (nomark _))
        (pss_one (ps_ret (pe_cmpR (op_eqD hr.units) (pe_ix ix_tup (pv 0) pe_int (fun _ _ => rfl)) pe_str (nomark _))))
        pss_nil)
      (pss_one (ps_ret (pe_and (pe_cmpR op_eq (pe_callB call_len_seq (by rfl) T.z_len PySem.boot_len (pa_cons (pv 0) pa_nil)) pe_int (nomark _)) (pe_one (pe_cmpR (op_inTD hr.units65) (pe_ix ix_tup (pv 0) pe_int (fun _ _ => rfl)) (pe_tup (pa_cons pe_str (pa_cons pe_str pa_nil))) (by rfl)))))))), ?_⟩
    replace hv : Dz K p c H v d := hv
    replace g : Gd 50 30000 d := g
    replace q : ∀ r H', Ex H H' → r = .bl (formP d) → Q r H' := q
    by_cases ht : isTup d = true
    · obtain ⟨a, xs, ds, rfl, rfl, hA, hD⟩ := tup_of hv ht
      have lx := hD.len
      refine q_when (b := false) (et_is (et_not (et_val (ev_isTup (K := K) (ev_var rfl) ev_c hv))) rfl) (fun hb => by cases hb) (fun _ H1 e1 => ?_)
      refine q_when (b := decide (xs.length = 1)) (et_test (len_is (K := K) (j := 1) (ev_var rfl) (ex_t e1 hA) ev_c)) (fun hb H2 e2 => ?_) (fun hb H2 e2 => ?_)
      · have l1 := of_decide_eq_true hb
        match ds, lx, hD, g, q with
        | [a0], lx, hD, g, q =>
          cases hD with
          | @cons x _ _ _ h0 hn =>
            cases hn with
            | nil =>
              exact s_ret (ev_eqS (K := K) (ev_op (ev_var rfl) ev_c (rv_ixT (K := K) (ex_t (e1.trans e2) hA) (atI_vi (k := 0) rfl))) (h0.ex (e1.trans e2)) (gd_mem g (List.mem_singleton.mpr rfl)) (by decide) ev_c (by decide +kernel)) fun H3 e3 => q _ H3 ((e1.trans e2).trans e3) rfl
        | [], lx, _, _, _ => exact absurd (lx.symm.trans l1) (by decide)
        | _ :: _ :: _, lx, _, _, _ => exact absurd (lx.symm.trans l1) (by rw [List.length_cons, List.length_cons]; omega)
      · have l1 := of_decide_eq_false hb
        have e02 := e1.trans e2
        by_cases l2 : xs.length = 2
        · match ds, lx, hD, g, q with
          | [a0, b0], lx, hD, g, q =>
            obtain ⟨x, y, rfl, h0, h1⟩ := two_dz hD
            refine s_ret (v := .bl (formP (.tuple [a0, b0]))) (ev_is (ev_andV (a := true) (b := isS "map" a0 || isS "none" a0) (ev_is (len_is (K := K) (j := 2) (ev_var rfl) (ex_t e02 hA) ev_c) rfl) (fun _ => ?_)) rfl) fun H3 e3 => q _ H3 (e02.trans e3) rfl
            intro H3 e3 Q3 q3
            refine do_op (ev_op (ev_var rfl) ev_c (rv_ixT (K := K) (ex_t (e02.trans e3) hA) (atI_vi (k := 0) rfl)) H3 (Ex.refl _) _ fun H4 e4 => tv_tup (K := K) (xs := [.str "map", .str "none"]) (ea_cons ev_c (ea_cons ev_c ea_nil)) (by show 2 ≤ 100000; decide) H4 (Ex.refl _) _ fun u H5 e5 hu => ?_)
            obtain ⟨ua, rfl, su⟩ := hu
            refine ⟨a0, [.str "map", .str "none"], (h0.ex ((e02.trans e3).trans (e4.trans e5))).dp, .tup su (.cons (.str _) (.cons (.str _) .nil)), (gd_mem g (List.mem_cons_self ..)).shaped (by decide), by decide +kernel, ?_⟩
            show Q3 (.bl (PyData.eqv (.str "map") a0 || (PyData.eqv (.str "none") a0 || false))) H5
            rw [isS_eqv, isS_eqv, Bool.or_false]
            exact q3 H5 (e4.trans e5)
          | [], lx, _, _, _ => exact absurd (lx.symm.trans l2) (by decide)
          | [_], lx, _, _, _ => exact absurd (lx.symm.trans l2) (by simp)
          | _ :: _ :: _ :: _, lx, _, _, _ => exact absurd (lx.symm.trans l2) (by rw [List.length_cons, List.length_cons, List.length_cons]; omega)
        · refine s_ret (ev_andV (a := false) (b := false) (ev_is (len_is (K := K) (j := 2) (ev_var rfl) (ex_t e02 hA) ev_c) (by rw [decide_eq_false l2])) (fun z => by cases z)) fun H3 e3 => q _ H3 (e02.trans e3) ?_
          have : formP (.tuple ds) = false := by
            match ds, lx with
            | [], _ => rfl
            | [_], lx => exact absurd lx l1
            | [_, _], lx => exact absurd lx l2
            | _ :: _ :: _ :: _, _ => rfl
          rw [this]
          rfl
    · have ht2 : isTup d = false := by simpa using ht
      refine q_when (b := true) (et_is (et_not (et_val (ev_isTup (K := K) (ev_var rfl) ev_c hv))) (by rw [ht2]; rfl)) (fun _ H1 e1 => s_ret ev_c fun H2 e2 => q _ H2 (e1.trans e2) ?_) (fun hb => by cases hb)
      cases d <;> first | rfl | cases ht2
def isLst : PyData → Bool
  | .list _ => true
  | _ => false
theorem ev_isLst {ta tb : TE} (ha : Ev ta σ H v) (hc : Ev tb σ H (.ty "list")) (h : Dz K p c H v d) : Ev (tCB (rIsi K) (tCons ta (tCons tb tNil))) σ H (.bl (isLst d)) := by
  cases h with
  | non => exact ev_isi (b := false) ha hc (.ty _) (fun _ _ => tyx_non) (kit_ty (by decide +kernel))
  | bl b => exact ev_isi (b := false) ha hc (.ty _) (fun _ _ => tyx_bl b) (kit_ty (by decide +kernel))
  | int i => exact ev_isi (b := false) ha hc (.ty _) (fun _ _ => tyx_int i) (kit_ty (by decide +kernel))
  | str z => exact ev_isi (b := false) ha hc (.ty _) (fun _ _ => tyx_str z) (kit_ty (by decide +kernel))
  | lst h _ _ _ => exact ev_isi (b := true) ha hc (.ty _) (fun _ e => .base (.lst (e _ _ h))) (kit_ty (by decide +kernel))
  | tup h _ => exact ev_isi (b := false) ha hc (.ty _) (fun _ e => tyx_tup (ex_t e h)) (kit_ty (by decide +kernel))
def head0 : PyData → PyData
  | .tuple (a :: _) => a
  | _ => .none
def sp_case_any (K : PySem.W.Frag) : Sp := spX (fun (z : (Addr × Addr) × Nat × List Nat × PyData) vs H => (∃ f v, vs = [vi z.2.1, f, v] ∧ Nats K H f z.2.2.1 ∧ Dz K z.1.1 z.1.2 H v z.2.2.2) ∧ z.2.2.1.length ≤ z.2.1 ∧ Gd 50 30000 z.2.2.2) (fun z v _ => v = .bl (caseB (z.2.1 - z.2.2.1.length) z.2.2.2))
theorem c_case_any (T : Txt mg) (D : Df K mg "is_case" s_is_case ["size", "images", "tree"]) : Cl P w K mg base 1 "is_case" (sp_case_any K) := by
  refine cl_of (k := 0) D sc_is_case (fun vs H Q E h => ?_) (fun f cdv A outer s H vs Q E hr h => ?_)
  · obtain ⟨z, ⟨⟨f, v, rfl, _⟩, _⟩, _⟩ := h
    rfl
  · obtain ⟨⟨⟨p, c⟩, n, F, d⟩, ⟨⟨f, v, rfl, hf, hv⟩, ln, g⟩, q⟩ := h
    refine ⟨_, (pss_cons (ps_if (PW.pt (pw_or (pt_not (pt_val (pe_callB call_isi (by rfl) T.z_isinstance (by decide +kernel) (pa_cons (pv 2) (pa_cons (pe_ty "tuple" (by rfl) T.z_tuple (by decide +kernel)) pa_nil))))) (pw_or (pt_cmpR op_ne (pe_callB call_len_seq (by rfl) T.z_len PySem.boot_len (pa_cons (pv 2) pa_nil)) pe_int (nomark _)) (pw_or1 (pt_cmpR (op_neD hr.units) (pe_ix ix_tup (pv 2) pe_int (fun _ _ => rfl)) pe_str (nomark _))))))
        (pss_one (ps_ret pe_bl))
        pss_nil)
      (pss_cons (ps_set (i := 3) sc_is_case.nd rfl (.inl rfl) (pe_op op_sub (pv 0) (pe_callB call_len_seq (by rfl) T.z_len PySem.boot_len (pa_cons (pv 1) pa_nil))))
      (pss_one (ps_ret (pe_and (pe_cmpR op_gt (pv 3) pe_int (nomark _)) (pe_and (pe_callB call_isi (by rfl) T.z_isinstance (by decide +kernel) (pa_cons (pe_ix ix_tup (pv 2) pe_int (fun _ _ => rfl)) (pa_cons (pe_ty "list" (by rfl) T.z_list (by decide +kernel)) pa_nil))) (pe_one (pe_cmpR op_eq (pe_callB call_len_seq (by rfl) T.z_len PySem.boot_len (pa_cons (pe_ix ix_tup (pv 2) pe_int (fun _ _ => rfl)) pa_nil)) (pv 3) (nomark _))))))))), ?_⟩
    replace hf : Nats K H f F := hf
    replace hv : Dz K p c H v d := hv
    replace ln : F.length ≤ n := ln
    replace g : Gd 50 30000 d := g
    replace q : ∀ r H', Ex H H' → r = .bl (caseB (n - F.length) d) → Q r H' := q
    obtain ⟨fa, rfl, hfa⟩ := id hf
    refine q_when (b := !isTup d || (!decide (lenD d = 2) || !isS "case" (head0 d))) (et_or (et_not (et_val (ev_isTup (K := K) (ev_var rfl) ev_c hv))) (fun ht => ?_)) (fun hb H1 e1 => ?_) (fun hb H1 e1 => ?_)
    · obtain ⟨a, xs, ds, rfl, rfl, hA, hD⟩ := tup_of hv (by simpa using ht)
      have lx := hD.len
      refine et_or (a := !decide (lenD (.tuple ds) = 2)) (et_is (et_test (len_ne (K := K) (j := 2) (ev_var rfl) hA ev_c)) (by show (!decide (xs.length = 2)) = !decide (ds.length = 2); rw [lx])) (fun hl => ?_)
      have l2 : ds.length = 2 := by
        have h : (!decide (ds.length = 2)) = false := hl
        simpa using h
      match ds, l2, hD, g with
      | [a0, b0], _, hD, g =>
        obtain ⟨x, y, rfl, h0, h1⟩ := two_dz hD
        exact et_test (ev_neS (K := K) (ev_op (ev_var rfl) ev_c (rv_ixT (K := K) hA (atI_vi (k := 0) rfl))) h0 (gd_mem g (List.mem_cons_self ..)) (by decide) ev_c (by decide +kernel))
    · refine s_ret ev_c fun H2 e2 => q _ H2 (e1.trans e2) ?_
      have : caseB (n - F.length) d = false := by
        match d, hb with
        | .tuple [a0, .list ks], hb =>
          have hb2 : (!isS "case" a0) = true := by simpa [isTup, lenD, head0] using hb
          show (isS "case" a0 && _) = false
          rw [Bool.not_eq_true'] at hb2
          rw [hb2, Bool.false_and]
        | .tuple [_, .none], _ => rfl
        | .tuple [_, .bool _], _ => rfl
        | .tuple [_, .int _], _ => rfl
        | .tuple [_, .str _], _ => rfl
        | .tuple [_, .tuple _], _ => rfl
        | .tuple [_, .dict _], _ => rfl
        | .tuple [], _ => rfl
        | .tuple [_], _ => rfl
        | .tuple (_ :: b0 :: _ :: _), _ => cases b0 <;> rfl
        | .none, _ => rfl
        | .bool _, _ => rfl
        | .int _, _ => rfl
        | .str _, _ => rfl
        | .list _, _ => rfl
        | .dict _, _ => rfl
      rw [this]
    · have ht : isTup d = true := by
        cases h : isTup d with
        | true => rfl
        | false => rw [h] at hb; cases hb
      obtain ⟨a, xs, ds, rfl, rfl, hA, hD⟩ := tup_of hv ht
      have l2 : ds.length = 2 := by
        have : (!decide (ds.length = 2) || !isS "case" (head0 (.tuple ds))) = false := hb
        rw [Bool.or_eq_false_iff] at this
        simpa using this.1
      match ds, l2, hD, g, hb, q with
      | [a0, b0], _, hD, g, hb, q =>
        obtain ⟨x, y, rfl, h0, h1⟩ := two_dz hD
        have hw : isS "case" a0 = true := by
          have : (!decide (([a0, b0] : List PyData).length = 2) || !isS "case" a0) = false := hb
          rw [Bool.or_eq_false_iff] at this
          simpa using this.2
        refine q_asg (v := vi (n - F.length)) (ev_subM (ev_var rfl) (ev_lenN (K := K) (ev_var rfl) (ex_t e1 hfa)) ln) fun H2 e2 => ?_
        have e02 := e1.trans e2
        refine s_ret (v := .bl (caseB (n - F.length) (.tuple [a0, b0]))) (ev_is (ev_andV (a := decide (0 < n - F.length)) (b := isLst b0 && (match b0 with | .list ks => decide (ks.length = n - F.length) | _ => false)) (ev_is (ev_op (ev_var rfl) ev_c rv_I0) (by
          show V.bl (decide (((n - F.length : Nat) : Int) > 0)) = _
          congr 1
          exact decide_eq_decide.mpr ⟨fun z => by omega, fun z => by omega⟩)) (fun _ => ev_andV (a := isLst b0) (ev_isLst (K := K) (ev_op (ev_var rfl) ev_c (rv_ixT (K := K) (ex_t e02 hA) (atI_vi (k := 1) rfl))) ev_c (h1.ex e02)) (fun hl => ?_))) ?_) fun H3 e3 => q _ H3 (e02.trans e3) rfl
        · cases h1 with
          | @lst la ls ks h hp hc r =>
            have lr := r.len
            exact ev_is (len_isL (K := K) (j := n - F.length) (ev_op (ev_var rfl) ev_c (rv_ixT (K := K) (ex_t e02 hA) (atI_vi (k := 1) rfl))) (sq_of (e02 _ _ h)) (ev_var rfl)) (by rw [lr])
          | non => cases hl
          | bl => cases hl
          | int => cases hl
          | str => cases hl
          | tup => cases hl
        · cases b0 with
          | list ks =>
            show V.bl (decide (0 < n - F.length) && (true && decide (ks.length = n - F.length))) = V.bl (isS "case" a0 && (decide (0 < n - F.length) && decide (ks.length = n - F.length)))
            rw [hw, Bool.true_and, Bool.true_and]
          | _ => 
            show V.bl (decide (0 < n - F.length) && (false && false)) = V.bl false
            rw [Bool.false_and, Bool.and_false]
/-! ### a right clash -/
def sp_clash_any (K : PySem.W.Frag) : Sp := spX (fun (z : (Addr × Addr) × MArg × MArg × List Nat × PyData) vs H => (∃ u v w f y, vs = [u, v, w, f, y] ∧ MA K H u v z.2.1 ∧ Mdl K H w z.2.2.1.2.1 z.2.2.1.2.2 ∧ Nats K H f z.2.2.2.1 ∧ Dz K z.1.1 z.1.2 H y z.2.2.2.2) ∧ Two z.2.1 z.2.2.1 ∧ Bg z.2.1.2.1 z.2.2.2.1.length z.2.2.2.1 ∧ Gd 50 30000 z.2.2.2.2) (fun z v _ => v = .bl (clashB z.2.1 z.2.2.1 z.2.2.2.1 z.2.2.2.2))
theorem c_clash_any (T : Txt mg) (D : Df K mg "is_clash" s_is_clash ["signature", "one", "other", "images", "tree"]) (c_row_any : Cl P w K mg base 3 "is_row" (sp_row_any K)) (c_clashes : Cl P w K mg base 2 "clashes" (sp_clashes K)) : Cl P w K mg base 4 "is_clash" (sp_clash_any K) := by
  refine cl_of (k := 3) D sc_is_clash (fun vs H Q E h => ?_) (fun f cdv A outer s H vs Q E hr h => ?_)
  · obtain ⟨z, ⟨⟨u, v, w, f, y, rfl, _⟩, _⟩, _⟩ := h
    rfl
  · obtain ⟨⟨⟨p0, c0⟩, p, p2, F, d⟩, ⟨⟨u, v, w, f, y, rfl, hm, hw, hf, hy⟩, tw, hF, g⟩, q⟩ := h
    have c_is_row := c_row_any
    refine ⟨_, (pss_cons (ps_if (PW.pt (pw_or (pt_not (pt_val (pe_callB call_isi (by rfl) T.z_isinstance (by decide +kernel) (pa_cons (pv 4) (pa_cons (pe_ty "tuple" (by rfl) T.z_tuple (by decide +kernel)) pa_nil))))) (pw_or (pt_cmpR op_ne (pe_callB call_len_seq (by rfl) T.z_len PySem.boot_len (pa_cons (pv 4) pa_nil)) pe_int (nomark _)) (pw_or1 (pt_cmpR (op_neD hr.units) (pe_ix ix_tup (pv 4) pe_int (fun _ _ => rfl)) pe_str (nomark _))))))
        (pss_one (ps_ret pe_bl))
        pss_nil)
      (pss_cons (ps_asg (pe_tup (pa_cons (pe_ix ix_tup (pv 4) pe_int (fun _ _ => rfl)) (pa_cons (pe_ix ix_tup (pv 4) pe_int (fun _ _ => rfl)) pa_nil))) (pg_tup (by rfl) (pgs_cons (pg_name (i := 5) sc_is_clash.nd rfl (.inr rfl)) (pgs_cons (pg_name (i := 6) sc_is_clash.nd rfl (.inl rfl)) pgs_nil))))
      (pss_cons (ps_setLc (i := 7) (own := [("deed", 8)]) (g := (gName 8)) (by rfl) sc_is_clash.nd rfl rfl (sw_true rfl rfl rfl (by decide +kernel)) (pi_tup (pv 0)) (blkOk_by (own := [("deed", 8)]) (N := ["signature", "one", "other", "images", "tree", "name", "numbers", "many", "deed"]) (sc := (defScope s_is_clash)) (by decide +kernel)) (fun _ _ _ _ _ => (pg_name (i := 8) sc_is_clash.nd rfl (.inl rfl))) (fun _ _ _ _ _ => (pts_one (pt_cmpR (op_eqDK K hr.units) (pe_ix (ix_tupK K) (pv 8) pe_int (fun _ _ => rfl)) (pv 5) (nomark _)))) (fun _ _ _ _ _ => (pe_ix (ix_tupK K) (pv 8) pe_int (fun _ _ => rfl))))
      (pss_cons (ps_if (PW.pt (pw_or (pt_not (pt_truth (pv 7) (by intro _; rfl))) (pw_or1 (pt_not (pt_val (pe_cl c_is_row hr (by first | decide | omega) (by rfl) (pa_cons (pv 6) (pa_cons (pe_ix ix_list (pv 7) pe_int (fun _ _ => rfl)) (pa_cons (pe_callB call_len_seq (by rfl) T.z_len PySem.boot_len (pa_cons (pv 3) pa_nil)) pa_nil)))))))))
        (pss_one (ps_ret pe_bl))
        pss_nil)
      (pss_one (ps_ret (pe_cl c_clashes hr (by first | decide | omega) (by rfl) (pa_cons (pv 0) (pa_cons (pv 1) (pa_cons (pv 2) (pa_cons (pv 3) (pa_cons (pv 5) (pa_cons (pv 6) pa_nil))))))))))))), ?_⟩
    replace hm : MA K H u v p := hm
    replace hw : Mdl K H w p2.2.1 p2.2.2 := hw
    replace hf : Nats K H f F := hf
    replace hy : Dz K p0 c0 H y d := hy
    replace tw : Two p p2 := tw
    replace hF : Bg p.2.1 F.length F := hF
    replace g : Gd 50 30000 d := g
    replace q : ∀ r H', Ex H H' → r = .bl (clashB p p2 F d) → Q r H' := q
    obtain ⟨fa, rfl, hfa⟩ := id hf
    obtain ⟨a, us, rfl, hS, hP⟩ := id hm.1
    have lS : us.length = p.1.length := paired_len hP
    have s4 := tw.ok.1.l4
    refine q_when (b := !isTup d || (!decide (lenD d = 3) || !isS "clash" (head0 d))) (et_or (et_not (et_val (ev_isTup (K := K) (ev_var rfl) ev_c hy))) (fun ht => ?_)) (fun hb H1 e1 => ?_) (fun hb H1 e1 => ?_)
    · obtain ⟨b, xs, ds, rfl, rfl, hA, hD⟩ := tup_of hy (by simpa using ht)
      have lx := hD.len
      refine et_or (a := !decide (lenD (.tuple ds) = 3)) (et_is (et_test (len_ne (K := K) (j := 3) (ev_var rfl) hA ev_c)) (by show (!decide (xs.length = 3)) = !decide (ds.length = 3); rw [lx])) (fun hl => ?_)
      have l2 : ds.length = 3 := by
        have h : (!decide (ds.length = 3)) = false := hl
        simpa using h
      match ds, l2, hD, g with
      | [a0, b0, r0], _, hD, g =>
        obtain ⟨x, y, z, rfl, h0, h1, h2⟩ := three_dz hD
        exact et_test (ev_neS (K := K) (ev_op (ev_var rfl) ev_c (rv_ixT (K := K) hA (atI_vi (k := 0) rfl))) h0 (gd_mem g (List.mem_cons_self ..)) (by decide) ev_c (by decide +kernel))
    · refine s_ret ev_c fun H2 e2 => q _ H2 (e1.trans e2) ?_
      have : clashB p p2 F d = false := by
        match d, hb with
        | .tuple [a0, b0, r0], hb =>
          have hb2 : (!isS "clash" a0) = true := by simpa [isTup, lenD, head0] using hb
          show (isS "clash" a0 && _) = false
          rw [Bool.not_eq_true'] at hb2
          rw [hb2, Bool.false_and]
        | .tuple [], _ => rfl
        | .tuple [_], _ => rfl
        | .tuple [_, _], _ => rfl
        | .tuple (_ :: _ :: _ :: _ :: _), _ => rfl
        | .none, _ => rfl
        | .bool _, _ => rfl
        | .int _, _ => rfl
        | .str _, _ => rfl
        | .list _, _ => rfl
        | .dict _, _ => rfl
      rw [this]
    · have ht : isTup d = true := by
        cases h : isTup d with
        | true => rfl
        | false => rw [h] at hb; cases hb
      obtain ⟨b, xs, ds, rfl, rfl, hA, hD⟩ := tup_of hy ht
      have l2 : ds.length = 3 := by
        have : (!decide (ds.length = 3) || !isS "clash" (head0 (.tuple ds))) = false := hb
        rw [Bool.or_eq_false_iff] at this
        simpa using this.1
      match ds, l2, hD, g, hb, q with
      | [a0, nm, r0], _, hD, g, hb, q =>
      obtain ⟨x, y1, z1, rfl, h0, h1, h2⟩ := three_dz hD
      have hww : isS "clash" a0 = true := by
        have : (!decide (([a0, nm, r0] : List PyData).length = 3) || !isS "clash" a0) = false := hb
        rw [Bool.or_eq_false_iff] at this
        simpa using this.2
      have gn : Gd 50 30000 nm := gd_mem g (List.mem_cons_of_mem _ (List.mem_cons_self ..))
      refine do_setG (do_tup (do_cons (do_ev (ev_op (ev_var rfl) ev_c (rv_ixT (K := K) (ex_t e1 hA) (atI_vi (k := 1) rfl))) fun H2 e2 => do_cons (do_ev (ev_op (ev_var rfl) ev_c (rv_ixT (K := K) (ex_t (e1.trans e2) hA) (atI_vi (k := 2) rfl))) fun H3 e3 => do_nil ⟨by show 2 ≤ sizeLine; decide, fun tp ntp => ?_⟩))))
      refine ⟨tp, _, rfl, st_of upd_same, rfl, _, _, rfl, _, _, rfl, rfl, ?_⟩
      have e03 : Ex H (upd H3 tp (.tup [y1, z1])) := ((e1.trans e2).trans e3).trans (Ex.new ntp)
      generalize upd H3 tp (.tup [y1, z1]) = H4 at *
      refine q_asgLP (elp_lcT (K := K) (a := a) (xs := us) (ev_var rfl) (ex_t e03 hS) (by omega) (fun i => isS (p.1.getD i ("", 0)).1 nm) (fun v i _ => v = vi (p.1.getD i ("", 0)).2) (fun _ _ _ _ _ z => z) (fun _ => rfl) (fun i x H5 e5 hx => ?_)) fun ml ms H5 nml e5 hml pms => ?_
      · obtain ⟨d1, hd1, c1, rfl, hc1⟩ := paired_at hP hx
        have ed : p.1.getD i ("", 0) = d1 := by rw [List.getD_eq_getElem?_getD, hd1]; rfl
        rw [ed]
        have hc5 := ex_t (e03.trans e5) hc1
        have nm1 := tw.ok.1.nm d1 (List.mem_of_getElem? hd1)
        refine ⟨et_test (fun H6 e6 Q6 q6 => do_op (ev_op (ev_var rfl) ev_c (rv_ixT (K := K) hc5 (atI_vi (k := 0) rfl)) H6 e6 _ fun H7 e7 => do_ev (ev_var rfl) fun H8 e8 => ⟨.str d1.1, nm, .str _, (h1.ex ((e03.trans e5).trans ((e6.trans e7).trans e8))).dp, (gd_str (name_cps nm1) (Nat.le_trans nm1.l4 (by decide))).shaped (by decide), gn.shaped (by decide), by
          rw [isS_eqv]
          exact q6 H8 (e7.trans e8)⟩)), fun _ => ?_⟩
        exact ep_ev (ev_op (ev_var rfl) ev_c (rv_ixT (K := K) hc5 (atI_vi (k := 1) rfl))) fun _ _ => rfl
      · have e05 := e03.trans e5
        by_cases ex : ∃ e ∈ p.1, isS e.1 nm = true
        · obtain ⟨⟨z, k⟩, mem, hz⟩ := ex
          have en : nm = .str z := by
            cases nm with
            | str s => rw [show s = z from of_decide_eq_true hz]
            | _ => cases hz
          subst en
          cases h1 with
          | str =>
          have hd : ∃ ms', ms = vi k :: ms' := by
            cases ms with
            | nil =>
              obtain ⟨i, hi⟩ := List.mem_iff_getElem?.mp mem
              have il := (List.getElem?_eq_some_iff.mp hi).1
              have inn : i ∈ (List.range us.length).filter fun i => isS (p.1.getD i ("", 0)).1 (.str z) := List.mem_filter.mpr ⟨List.mem_range.mpr (by omega), by rw [List.getD_eq_getElem?_getD, hi]; exact decide_eq_true rfl⟩
              have := paired_len pms
              rw [List.length_nil] at this
              rw [List.eq_nil_of_length_eq_zero this.symm] at inn
              cases inn
            | cons m0 ms' =>
              obtain ⟨i, hi, em⟩ := paired_at pms (i := 0) (x := m0) rfl
              have inn := List.mem_iff_getElem?.mpr ⟨0, hi⟩
              obtain ⟨i1, i2⟩ := List.mem_filter.mp inn
              have il : i < p.1.length := by have := List.mem_range.mp i1; omega
              have gi := List.getElem?_eq_getElem il
              have ed : p.1.getD i ("", 0) = p.1[i] := by rw [List.getD_eq_getElem?_getD, gi]; rfl
              rw [ed] at i2 em
              obtain ⟨j, hj⟩ := List.mem_iff_getElem?.mp mem
              have := (sig_one tw.ok gi hj (show p.1[i].1 = z from (of_decide_eq_true i2).symm)).2
              refine ⟨ms', ?_⟩
              rw [em, this]
          obtain ⟨ms', rfl⟩ := hd
          have F6 : F.length ≤ 6 := by have := hF.le; have := tw.ok.2.n6; omega
          have k2 : k ≤ 2 := tw.ok.1.pl _ mem
          have val : clashB p p2 F (.tuple [a0, .str z, r0]) = (rowB k F.length r0 && bad (sysOf p p2) F (z, natsT r0)) := by
            show (isS "clash" a0 && p.1.any fun d => isS d.1 (.str z) && (rowB d.2 F.length r0 && bad (sysOf p p2) F (d.1, natsT r0))) = _
            rw [hww, Bool.true_and]
            cases hv2 : (rowB k F.length r0 && bad (sysOf p p2) F (z, natsT r0)) with
            | true => exact List.any_eq_true.mpr ⟨(z, k), mem, by rw [show isS (z, k).1 (.str z) = true from decide_eq_true rfl, Bool.true_and]; exact hv2⟩
            | false =>
              rw [List.any_eq_false]
              intro e he hh
              rw [Bool.and_eq_true] at hh
              have e1z : e.1 = z := (of_decide_eq_true hh.1).symm
              obtain ⟨i, hi⟩ := List.mem_iff_getElem?.mp he
              obtain ⟨j, hj⟩ := List.mem_iff_getElem?.mp mem
              have := (sig_one tw.ok hi hj e1z).2
              subst this
              rw [hv2] at hh
              cases hh.2
          rw [val] at q
          refine q_when (b := !rowB k F.length r0) (et_is (et_or (a := false) (et_not (et_truL (K := K) (ev_var rfl) (sq_of hml))) (fun _ => et_not (et_val (ev_callV (v := .bl (rowB k F.length r0)) ((p0, c0), r0, k, F.length) (ea_cons (ev_var rfl) (ea_cons (ev_op (ev_var rfl) ev_c (rv_ixL (K := K) (sq_of hml) (atI_vi (k := 0) rfl))) (ea_cons (ev_lenN (K := K) (ev_var rfl) (ex_t e05 hfa)) ea_nil))) (fun H6 e6 => ⟨⟨_, rfl, h2.ex (e05.trans e6)⟩, by show k ≤ 1000; omega⟩) (fun _ _ z => z))))) (by rw [Bool.false_or])) (fun hb2 H6 e6 => ?_) (fun hb2 H6 e6 => ?_)
          · rw [Bool.not_eq_true'] at hb2
            exact s_ret ev_c fun H7 e7 => q _ H7 ((e05.trans e6).trans e7) (by rw [hb2, Bool.false_and])
          · rw [Bool.not_eq_false'] at hb2
            have e06 := e05.trans e6
            obtain ⟨nr, lr, low⟩ := rowB_nats (h2.ex e06) hb2
            exact s_ret (ev_callV (v := .bl (bad (sysOf p p2) F (z, natsT r0))) (⟨p, p2, F, z, k, natsT r0⟩ : CArg) (ea_cons (ev_var rfl) (ea_cons (ev_var rfl) (ea_cons (ev_var rfl) (ea_cons (ev_var rfl) (ea_cons (ev_var rfl) (ea_cons (ev_var rfl) ea_nil)))))) (fun H7 e7 => ⟨⟨_, _, _, _, _, rfl, hm.ex (e06.trans e7), hw.ex (e06.trans e7), hf.ex (e06.trans e7), nr.ex e7⟩, tw, hF, mem, LD.mem_rows lr low⟩) (fun v7 H7 z => z)) fun H7 e7 => q _ H7 (e06.trans e7) (by rw [hb2, Bool.true_and])
        · have none_ : (List.range us.length).filter (fun i => isS (p.1.getD i ("", 0)).1 nm) = [] := List.filter_eq_nil_iff.mpr fun i hi hh => ex ⟨p.1.getD i ("", 0), by
            have il : i < p.1.length := by have := List.mem_range.mp hi; omega
            rw [List.getD_eq_getElem?_getD, List.getElem?_eq_getElem il]
            exact List.getElem_mem il, hh⟩
          have lm := paired_len pms
          rw [none_] at lm
          have em : ms = [] := List.eq_nil_of_length_eq_zero lm
          subst em
          have val : clashB p p2 F (.tuple [a0, nm, r0]) = false := by
            show (isS "clash" a0 && p.1.any fun d => isS d.1 nm && (rowB d.2 F.length r0 && bad (sysOf p p2) F (d.1, natsT r0))) = _
            rw [hww, Bool.true_and, List.any_eq_false]
            intro e he hh
            rw [Bool.and_eq_true] at hh
            exact ex ⟨e, he, hh.1⟩
          exact q_when (b := true) (et_is (et_or (a := true) (b := false) (et_not (et_truL (K := K) (ev_var rfl) (sq_of hml))) (fun z => by cases z)) rfl) (fun _ H6 e6 => s_ret ev_c fun H7 e7 => q _ H7 ((e05.trans e6).trans e7) (by rw [val])) (fun hb => by cases hb)
end
end K22
end
section
namespace K22
open PySem PySem.Spec PyProof.Rows L2 Evl RZ Dw M20 M25 CL LK
/-! ### the first odd place of a tree -/
abbrev E3 := List Nat × List Nat × PyData
def kidsD : PyData → List PyData
  | .tuple [_, .list ks] => ks
  | _ => []
def kids3 (n : Nat) (q F : List Nat) (ks : List PyData) : List E3 := (List.range ks.length).map fun i => (q ++ [i], F ++ [(free n F).getD i 0], ks.getD i .none)
def oddT (x y : MArg) : Nat → List Nat → List Nat → PyData → Option (List Nat)
  | 0, F, q, t => if clashB x y F t = true then none else some q
  | k + 1, F, q, t => if caseB (x.2.1 - F.length) t = true then (kids3 x.2.1 q F (kidsD t)).findSome? (fun e => oddT x y k e.2.1 e.1 e.2.2) else if clashB x y F t = true then none else some q
theorem case_shape {left : Nat} {t : PyData} (h : caseB left t = true) : ∃ a ks, t = .tuple [a, .list ks] ∧ 0 < left ∧ ks.length = left ∧ isS "case" a = true := by
  match t, h with
  | .tuple [a, .list ks], h =>
    have h2 : (isS "case" a && (decide (0 < left) && decide (ks.length = left))) = true := h
    rw [Bool.and_eq_true, Bool.and_eq_true, decide_eq_true_eq, decide_eq_true_eq] at h2
    exact ⟨a, ks, rfl, h2.2.1, h2.2.2, h2.1⟩
  | .tuple [_, .none], h => cases h
  | .tuple [_, .bool _], h => cases h
  | .tuple [_, .int _], h => cases h
  | .tuple [_, .str _], h => cases h
  | .tuple [_, .tuple _], h => cases h
  | .tuple [_, .dict _], h => cases h
  | .tuple [], h => cases h
  | .tuple [_], h => cases h
  | .tuple (_ :: b0 :: _ :: _), h => cases b0 <;> cases h
  | .none, h => cases h
  | .bool _, h => cases h
  | .int _, h => cases h
  | .str _, h => cases h
  | .list _, h => cases h
  | .dict _, h => cases h
/-- what an entry of the stack comes to -/
def ov (x y : MArg) (e : E3) : Option (List Nat) := oddT x y (x.2.1 - e.2.1.length) e.2.1 e.1 e.2.2
def fs (x y : MArg) (l : List E3) : Option (List Nat) := l.reverse.findSome? (ov x y)
theorem fs_snoc {x y : MArg} {b : List E3} {e : E3} : fs x y (b ++ [e]) = (ov x y e).or (fs x y b) := by
  unfold fs
  rw [List.reverse_append, List.reverse_singleton, List.findSome?_append]
  congr 1
  rw [List.findSome?_cons]
  cases ov x y e <;> rfl
theorem fs_kids {x y : MArg} {b ks : List E3} : fs x y (b ++ ks.reverse) = (ks.findSome? (ov x y)).or (fs x y b) := by
  unfold fs
  rw [List.reverse_append, List.reverse_reverse, List.findSome?_append]
theorem kids3_len {n : Nat} {q F : List Nat} {ks : List PyData} : (kids3 n q F ks).length = ks.length := by
  unfold kids3
  rw [List.length_map, List.length_range]
theorem kids3_at {n i : Nat} {q F : List Nat} {ks : List PyData} (h : i < ks.length) : (kids3 n q F ks)[i]? = some (q ++ [i], F ++ [(free n F).getD i 0], ks.getD i .none) := by
  unfold kids3
  rw [List.getElem?_map, List.getElem?_range h]
  rfl
theorem findSome_congr {α β : Type} {f g : α → Option β} : ∀ {l : List α}, (∀ a ∈ l, f a = g a) → l.findSome? f = l.findSome? g
  | [], _ => rfl
  | a :: l, h => by
    rw [List.findSome?_cons, List.findSome?_cons, h a (List.mem_cons_self ..), findSome_congr (l := l) fun b hb => h b (List.mem_cons_of_mem _ hb)]
theorem ov_case {x y : MArg} {q F : List Nat} {t : PyData} (h : caseB (x.2.1 - F.length) t = true) : ov x y (q, F, t) = (kids3 x.2.1 q F (kidsD t)).findSome? (ov x y) := by
  obtain ⟨a, ks, e, pos, _, _⟩ := case_shape h
  obtain ⟨k, hk⟩ : ∃ k, x.2.1 - F.length = k + 1 := ⟨x.2.1 - F.length - 1, by omega⟩
  show oddT x y (x.2.1 - F.length) F q t = _
  rw [hk] at h ⊢
  rw [oddT, hk, if_pos h]
  refine findSome_congr fun e he => ?_
  obtain ⟨i, hi⟩ := List.mem_iff_getElem?.mp he
  have il : i < (kidsD t).length := by rw [← kids3_len]; exact (List.getElem?_eq_some_iff.mp hi).1
  rw [kids3_at il] at hi
  cases Option.some.inj hi
  show oddT x y k _ _ _ = oddT x y (x.2.1 - (F ++ [_]).length) _ _ _
  rw [List.length_append, List.length_singleton, show x.2.1 - (F.length + 1) = k by omega]
theorem ov_leaf {x y : MArg} {q F : List Nat} {t : PyData} (h : caseB (x.2.1 - F.length) t = false) : ov x y (q, F, t) = if clashB x y F t = true then none else some q := by
  show oddT x y (x.2.1 - F.length) F q t = _
  cases hk : x.2.1 - F.length with
  | zero => rw [oddT]
  | succ k =>
    rw [hk] at h
    rw [oddT, hk, if_neg (by rw [h]; decide)]
/-! how many parts a tree has -/
mutual
def nd : PyData → Nat
  | .list xs => 1 + nds xs
  | .tuple xs => 1 + nds xs
  | .none => 1
  | .bool _ => 1
  | .int _ => 1
  | .str _ => 1
  | .dict _ => 1
def nds : List PyData → Nat
  | [] => 0
  | d :: ds => nd d + nds ds
end
mutual
theorem nd_le : ∀ d : PyData, nd d ≤ d.weight + 1
  | .none => by rw [nd]; omega
  | .bool _ => by rw [nd]; omega
  | .int _ => by rw [nd]; omega
  | .str _ => by rw [nd]; omega
  | .dict _ => by rw [nd]; omega
  | .list xs => by
    rw [nd, PyData.weight]
    have := nds_le xs
    omega
  | .tuple xs => by
    rw [nd, PyData.weight]
    have := nds_le xs
    omega
theorem nds_le : ∀ ds : List PyData, nds ds ≤ PyData.weightAll ds
  | [] => by rw [nds]; omega
  | d :: ds => by
    rw [nds, PyData.weightAll]
    have := nd_le d
    have := nds_le ds
    omega
end
theorem nd_pos (d : PyData) : 1 ≤ nd d := by
  cases d <;> (rw [nd]; omega)
theorem nds_sum : ∀ ds : List PyData, (ds.map nd).sum = nds ds
  | [] => by rw [nds]; rfl
  | d :: ds => by
    rw [nds, List.map_cons, List.sum_cons, nds_sum ds]
def esz (l : List E3) : Nat := (l.map fun e => nd e.2.2).sum
theorem esz_app (a b : List E3) : esz (a ++ b) = esz a + esz b := by
  unfold esz
  rw [List.map_append, List.sum_append]
theorem esz_rev (l : List E3) : esz l.reverse = esz l := by
  unfold esz
  rw [List.map_reverse, List.sum_reverse]
theorem esz_len : ∀ l : List E3, l.length ≤ esz l
  | [] => Nat.zero_le _
  | e :: l => by
    have := esz_len l
    have z := nd_pos e.2.2
    show l.length + 1 ≤ nd e.2.2 + esz l
    omega
theorem kids3_sz {n : Nat} {q F : List Nat} {ks : List PyData} : esz (kids3 n q F ks) = nds ks := by
  unfold esz kids3
  rw [List.map_map, ← nds_sum]
  have e : (List.range ks.length).map (fun i => ks.getD i PyData.none) = ks := Dw.range_getD _ _
  conv => rhs; rw [← e]
  rw [List.map_map]
  rfl
def EnV (K : PySem.W.Frag) (p c : Addr) (H0 H : Hp) (v : V) (e : E3) : Prop := ∃ aa x f y, v = .ref aa ∧ SqT K H aa [x, f, y] ∧ Nats K H x e.1 ∧ Nats K H f e.2.1 ∧ Dz K p c H0 y e.2.2
theorem EnV.et {K : PySem.W.Frag} {p c : Addr} {H0 H H' : Hp} {v : V} {e : E3} (x : ET K H H') (h : EnV K p c H0 H v e) : EnV K p c H0 H' v e := let ⟨aa, a, b, y, ev, s, n, m, z⟩ := h; ⟨aa, a, b, y, ev, x _ _ s, n.et x, m.et x, z⟩
def OdV (K : PySem.W.Frag) (H : Hp) (v : V) : Option (List Nat) → Prop
  | none => v = .non
  | some q => Nats K H v q
theorem paired_eq {α : Type} {f : α → V} : ∀ {vs : List V} {l : List α}, Paired (fun v k => v = f k) vs l → vs = l.map f
  | _, _, .nil => rfl
  | _, _, .cons h t => by rw [h, paired_eq t]; rfl
/-- what holds of the stack's entries -/
structure EnOk (n : Nat) (e : E3) : Prop where
  bg : Bg n e.2.1.length e.2.1
  gd : Gd 50 30000 e.2.2
  ql : e.1.length = e.2.1.length
section
variable {P : Program} {w : World} {K : PySem.W.Frag} {mg : Str → Option Value} {base : Heap}
def sp_first_odd (K : PySem.W.Frag) : Sp := spX (fun (z : (Addr × Addr) × MArg × MArg × PyData) vs H => (∃ u v w y, vs = [u, v, w, y] ∧ MA K H u v z.2.1 ∧ Mdl K H w z.2.2.1.2.1 z.2.2.1.2.2 ∧ Dz K z.1.1 z.1.2 H y z.2.2.2) ∧ Two z.2.1 z.2.2.1 ∧ Gd 50 30000 z.2.2.2) (fun z v H => OdV K H v (oddT z.2.1 z.2.2.1 z.2.1.2.1 [] [] z.2.2.2))
theorem c_first_odd_place (T : Txt mg) (D : Df K mg "first_odd_place" s_first_odd_place ["signature", "one", "other", "tree"]) (c_case_any : Cl P w K mg base 1 "is_case" (sp_case_any K)) (c_clash_any : Cl P w K mg base 4 "is_clash" (sp_clash_any K)) : Cl P w K mg base 5 "first_odd_place" (sp_first_odd K) := by
  refine cl_of (k := 4) D sc_first_odd_place (fun vs H Q E h => ?_) (fun f cdv A outer s H vs Q E hr h => ?_)
  · obtain ⟨z, ⟨⟨u, v, w, y, rfl, _⟩, _⟩, _⟩ := h
    rfl
  · obtain ⟨⟨⟨p0, c0⟩, p, p2, t⟩, ⟨⟨u, v, w, y, rfl, hm, hw, ht⟩, tw, gt⟩, q⟩ := h
    have c_is_case := c_case_any
    have c_is_clash := c_clash_any
    refine ⟨_, (pss_cons (ps_set (i := 4) sc_first_odd_place.nd rfl (.inl rfl) (pe_lst (pa_cons (pe_tup (pa_cons (pe_tup pa_nil) (pa_cons (pe_tup pa_nil) (pa_cons (pv 3) pa_nil)))) pa_nil)))
      (pss_cons (ps_while PassesOwn.never (pt_truth (pv 4) (by intro _; rfl))
        (pss_cons (ps_asg (pe_bm0 PySem.F.plainAttrs_list PySem.F.slot_list_pop PySem.F.type_list_pop mt_pop (pv 4)) (pg_tup (by rfl) (pgs_cons (pg_name (i := 5) sc_first_odd_place.nd rfl (.inl rfl)) (pgs_cons (pg_name (i := 6) sc_first_odd_place.nd rfl (.inr rfl)) (pgs_cons (pg_name (i := 7) sc_first_odd_place.nd rfl (.inl rfl)) pgs_nil)))))
        (pss_one (ps_if (pt_val (pe_cl c_is_case hr (by first | decide | omega) (by rfl) (pa_cons (pe_ix ix_tup (pv 1) pe_int (fun _ _ => rfl)) (pa_cons (pv 6) (pa_cons (pv 7) pa_nil)))))
          (pss_cons (ps_setLc (i := 8) (own := [("number", 10)]) (g := (gName 10)) (by rfl) sc_first_odd_place.nd rfl rfl (sw_true rfl rfl rfl (by decide +kernel)) (pi_range1 (by rfl) T.z_range (pa_cons (pe_ix ix_tup (pv 1) pe_int (fun _ _ => rfl)) pa_nil)) (blkOk_by (own := [("number", 10)]) (N := ["signature", "one", "other", "tree", "todo", "path", "images", "here", "left", "k", "number"]) (sc := (defScope s_first_odd_place)) (by decide +kernel)) (fun _ _ _ _ _ => (pg_name (i := 10) sc_first_odd_place.nd rfl (.inl rfl))) (fun _ _ _ _ _ => (pts_one (pt_cmpR (op_notIn_seqK K) (pv 10) (pv 6) (by rfl)))) (fun _ _ _ _ _ => (pv 10)))
          (pss_one (ps_for PassesOwn.never (by rfl) (pi_revR (by rfl) T.z_reversed (prg_1 (by rfl) T.z_range (pe_callB call_len_seq (by rfl) T.z_len PySem.boot_len (pa_cons (pv 8) pa_nil)))) (pg_name (i := 9) sc_first_odd_place.nd rfl (.inl rfl))
            (pss_one (ps_expr (pe_bm PySem.F.plainAttrs_list PySem.F.slot_list_append PySem.F.type_list_append mt_append (pv 4) (pa_cons (pe_tup (pa_cons (pe_op op_catA (pv 5) (pe_tup (pa_cons (pv 9) pa_nil))) (pa_cons (pe_op op_catA (pv 6) (pe_tup (pa_cons (pe_ix ix_list (pv 8) (pv 9) (fun _ _ => rfl)) pa_nil))) (pa_cons (pe_ix ix_list (pe_ix ix_tup (pv 7) pe_int (fun _ _ => rfl)) (pv 9) (fun _ _ => rfl)) pa_nil)))) pa_nil)))))))
          (pss_one (ps_if (pt_not (pt_val (pe_cl c_is_clash hr (by first | decide | omega) (by rfl) (pa_cons (pv 0) (pa_cons (pv 1) (pa_cons (pv 2) (pa_cons (pv 6) (pa_cons (pv 7) pa_nil))))))))
            (pss_one (ps_ret (pv 5)))
            pss_nil))))))
      (pss_one (ps_ret pe_non)))), ?_⟩
    replace hm : MA K H u v p := hm
    replace hw : Mdl K H w p2.2.1 p2.2.2 := hw
    replace ht : Dz K p0 c0 H y t := ht
    replace tw : Two p p2 := tw
    replace gt : Gd 50 30000 t := gt
    replace q : ∀ r H', Ex H H' → OdV K H' r (oddT p p2 p.2.1 [] [] t) → Q r H' := q
    have n6 : p.2.1 ≤ 6 := MdlOk.n6 (show MdlOk p.1 p.2.1 p.2.2 from tw.ok.2)
    obtain ⟨va, vt, rfl, hva, hvt⟩ := id hm.2
    have bg0 : Bg p.2.1 ([] : List Nat).length [] := ⟨rfl, fun x z => (by cases z), List.nodup_nil⟩
    have small : nd t ≤ 30001 := by have := nd_le t; have := gt.wgt; omega
    have tot0 : fs p p2 [([], [], t)] = oddT p p2 p.2.1 [] [] t := by
      show fs p p2 ([] ++ [([], [], t)]) = _
      rw [fs_snoc]
      show (oddT p p2 (p.2.1 - 0) [] [] t).or none = _
      rw [Option.or_none]
      rfl
    refine do_set (do_lst (do_cons ((ep_tup3 (K := K) (P1 := fun v H' => Nats K H' v []) (P2 := fun v H' => Nats K H' v []) (P3 := fun v H' => Dz K p0 c0 H v t) (tv_nats (K := K) (ns := []) (tv_tup ea_nil (Nat.zero_le _))) (tv_nats (K := K) (ns := []) (tv_tup ea_nil (Nat.zero_le _))) (ep_ev (ev_var rfl) fun H' e' => ht) (fun v H H' e h => h.ex e) (fun v H H' e h => h.ex e) (fun v H H' e h => h)) H (Ex.refl H) _ fun v0 H1 e1 hv0 => do_nil ⟨by show 1 ≤ sizeLine; decide, fun td ntd => ?_⟩)))
    have ntH : H td = none := fresh_back e1 ntd
    have e2 : Ex H1 (upd H1 td (.lst [v0])) := Ex.new ntd
    have htd : (upd H1 td (.lst [v0])) td = some (.lst [v0]) := upd_same
    have pl0 : EnV K p0 c0 H (upd H1 td (.lst [v0])) v0 ([], [], t) := by
      obtain ⟨pp, a, b, c, ev, sp, ha, hb, hc⟩ := hv0
      exact ⟨pp, a, b, c, ev, ex_t e2 sp, ha.ex e2, hb.ex e2, hc⟩
    generalize upd H1 td (.lst [v0]) = H2 at *
    show tSeq _ _ _ [some u, some (.ref va), some w, some y, some (.ref td), none, none, none, none, none, none] H2
    refine q_while (fun k σ H' => Ex H H' ∧ ∃ (stk : List E3) (us : List V) (y5 y6 y7 y8 y9 : Option V), k = esz stk ∧ H' td = some (.lst us) ∧ Paired (EnV K p0 c0 H H') us stk ∧ (∀ e ∈ stk, EnOk p.2.1 e) ∧ esz stk ≤ 30001 ∧ fs p p2 stk = oddT p p2 p.2.1 [] [] t ∧ σ = [some u, some (.ref va), some w, some y, some (.ref td), y5, y6, y7, y8, y9, none]) (esz [([], [], t)])
      ⟨e1.trans e2, [([], [], t)], [v0], none, none, none, none, none, rfl, htd, .cons pl0 .nil, fun e he => by rw [List.mem_singleton.mp he]; exact ⟨bg0, gt, rfl⟩, by show nd t + 0 ≤ 30001; omega, tot0, rfl⟩ (fun k σ H7 hW => ?_)
    obtain ⟨e7, stk, us, y5, y6, y7, y8, y9, ek, hus, prs, good, tot, val, hσ⟩ := hW
    subst hσ
    subst ek
    refine ⟨_, et_truL (K := K) (ev_var rfl) (sq_of hus), fun hb H8 e8 => ?_, fun hb H8 e8 => ?_⟩
    · have ne : stk ≠ [] := fun z => by
        subst z
        cases prs
        cases hb
      obtain ⟨ws, u', b, e', rfl, rfl, pb, pt⟩ := paired_last prs ne
      obtain ⟨bgF, gdF, pql⟩ := good e' (List.mem_append_right _ (List.mem_singleton.mpr rfl))
      have goodb : ∀ e ∈ b, EnOk p.2.1 e := fun e he => good e (List.mem_append_left _ he)
      obtain ⟨pa, F, t'⟩ := e'
      have et' : esz (b ++ [(pa, F, t')]) = esz b + nd t' := by
        rw [esz_app]
        rfl
      rw [et'] at tot
      rw [et']
      rw [fs_snoc] at val
      replace bgF : Bg p.2.1 F.length F := bgF
      replace gdF : Gd 50 30000 t' := gdF
      refine ⟨fun σ' H' => ∃ k', k' < esz b + nd t' ∧ Ex H H' ∧ ∃ (stk : List E3) (us : List V) (y5 y6 y7 y8 y9 : Option V), k' = esz stk ∧ H' td = some (.lst us) ∧ Paired (EnV K p0 c0 H H') us stk ∧ (∀ e ∈ stk, EnOk p.2.1 e) ∧ esz stk ≤ 30001 ∧ fs p p2 stk = oddT p p2 p.2.1 [] [] t ∧ σ' = [some u, some (.ref va), some w, some y, some (.ref td), y5, y6, y7, y8, y9, none], fun σ2 H5 ⟨k', lt, r⟩ => ⟨k', lt, r⟩, ?_⟩
      refine do_setG (do_pop (e8 _ _ hus) (ev_var rfl) fun H9 e9 => ?_)
      have e79 := e8.trans e9
      have hus9 := e79 _ _ hus
      have x10 : Ex H (upd H9 td (.lst ws)) := (e7.trans e79).mut ntH
      have td10 : (upd H9 td (.lst ws)) td = some (.lst ws) := upd_same
      have et10 : ET K H7 (upd H9 td (.lst ws)) := ET.trans (Dw.Ex.et e79) (ET.refl.upd hus9)
      have pb10 : Paired (EnV K p0 c0 H (upd H9 td (.lst ws))) ws b := paired_imp (fun _ _ z => z.et et10) pb
      have pt10 := pt.et et10
      generalize upd H9 td (.lst ws) = H10 at *
      obtain ⟨aa, x, f, yy, rfl, sa, hx, hf, tr⟩ := pt10
      replace hx : Nats K H10 x pa := hx
      replace hf : Nats K H10 f F := hf
      replace tr : Dz K p0 c0 H yy t' := tr
      refine ⟨aa, _, rfl, sa, rfl, _, _, rfl, _, _, rfl, _, _, rfl, rfl, ?_⟩
      show tIfS _ _ _ _ [some u, some (.ref va), some w, some y, some (.ref td), some x, some f, some yy, y8, y9, none] H10
      have lb := esz_len b
      have lpb := paired_len pb10
      have F6 := bgF.le
      refine s_if (b := caseB (p.2.1 - F.length) t') (et_val (ev_callV (v := .bl (caseB (p.2.1 - F.length) t')) ((p0, c0), p.2.1, F, t') (ea_cons (ev_op (ev_var rfl) ev_c (rv_ixT (K := K) (ex_t x10 hva) (atI_vi (k := 0) rfl))) (ea_cons (ev_var rfl) (ea_cons (ev_var rfl) ea_nil))) (fun H11 e11 => ⟨⟨_, _, rfl, hf.ex e11, tr.ex (x10.trans e11)⟩, F6, gdF⟩) (fun _ _ z => z))) (fun hb H11 e11 => ?_) (fun hb H11 e11 => ?_)
      · -- a case
        obtain ⟨a0, ks, rfl, lt, lk, _⟩ := case_shape hb
        have x11 := x10.trans e11
        have lf := free_len bgF
        obtain ⟨hp, hxs, hds, rfl, ehd, sh, hdd⟩ := tup_of tr rfl
        cases ehd
        obtain ⟨x0, y0, rfl, hz0, hz1⟩ := two_dz hdd
        cases hz1 with
        | @lst la kvs _ hla nlp nlc kz =>
        have lkv := kz.len
        obtain ⟨fa, ef, hfa⟩ := id hf
        subst ef
        obtain ⟨xa, ex, hxa⟩ := id hx
        subst ex
        refine q_asgLP (elp_lcR (n := p.2.1) (ea_cons (ev_op (ev_var rfl) ev_c (rv_ixT (K := K) (ex_t x11 hva) (atI_vi (k := 0) rfl))) ea_nil) (by omega) (fun k => !decide (k ∈ F)) (fun v k _ => v = vi k) (fun _ _ _ _ _ z => z) (fun _ => rfl) (fun k H12 hk e12 => ⟨?_, fun _ => ep_ev (ev_var rfl) fun _ _ => rfl⟩)) fun ll ls H12 nll e12 hll pls => ?_
        · exact et_is (et_test (ev_op (ev_var rfl) (ev_var rfl) (rv_niT (K := K) (ex_t (e11.trans e12) hfa) rfl (flat_vi F)))) (by rw [inV_vi])
        have els : ls = (free p.2.1 F).map vi := paired_eq pls
        subst els
        have e1012 := e11.trans e12
        have x12 : Ex H H12 := x10.trans e1012
        have td12 : H12 td = some (.lst ws) := e1012 _ _ td10
        have pb12 : Paired (EnV K p0 c0 H H12) ws b := paired_imp (fun _ _ z => z.et (Dw.Ex.et e1012)) pb10
        have nll2 : ll ≠ td := fun z => by rw [z] at nll; rw [e11 _ _ td10] at nll; cases nll
        have kl := kids3_len (n := p.2.1) (q := pa) (F := F) (ks := ks)
        have ksz : esz (kids3 p.2.1 pa F ks) = nds ks := kids3_sz
        have ndt : nd (.tuple [a0, .list ks]) = 1 + (nd a0 + (1 + nds ks + 0)) := by rw [nd, nds, nds, nds, nd]
        rw [ndt] at tot
        have lke := esz_len (kids3 p.2.1 pa F ks)
        show tFor _ _ _ _ [some u, some (.ref va), some w, some y, some (.ref td), some (.ref xa), some (.ref fa), some (.ref hp), some (.ref ll), y9, none] H12
        refine s_forRev (n := ks.length) (ev_is (ev_len (K := K) (ev_var rfl) (sq_of hll)) (by rw [List.length_map, lf, lk])) (by omega) (fun i σ' H' => Ex H H' ∧ ET K H12 H' ∧ (∀ b, b ≠ td → ∀ xs, H12 b = some (.lst xs) → H' b = some (.lst xs)) ∧ ∃ (us : List V) (y9 : Option V), H' td = some (.lst us) ∧ Paired (EnV K p0 c0 H H') us (b ++ (kids3 p.2.1 pa F ks).reverse.take i) ∧ σ' = [some u, some (.ref va), some w, some y, some (.ref td), some (.ref xa), some (.ref fa), some (.ref hp), some (.ref ll), y9, none])
          (fun H14 e14 => ⟨x12.trans e14, Dw.Ex.et e14, fun b _ xs hxs => e14 _ _ hxs, ws, _, e14 _ _ td12, by rw [List.take_zero, List.append_nil]; exact paired_imp (fun _ _ z => z.et (Dw.Ex.et e14)) pb12, rfl⟩) (fun i σ' H14 hi hP => ?_) (fun σ' H14 hP => ?_)
        · obtain ⟨x14, et14, kp14, us', y9', td14, p14, hσ⟩ := hP
          subst hσ
          have ln := paired_len p14
          rw [List.length_append, List.length_take, List.length_reverse, kl] at ln
          have kk : ks.length - 1 - i < ks.length := by omega
          have kf : ks.length - 1 - i < (free p.2.1 F).length := by omega
          have kv : ks.length - 1 - i < kvs.length := by omega
          have hll14 : H14 ll = some (.lst ((free p.2.1 F).map vi)) := kp14 ll nll2 _ hll
          have dk : Dz K p0 c0 H kvs[ks.length - 1 - i] (ks.getD (ks.length - 1 - i) .none) := by
            obtain ⟨e0, he0, hz⟩ := kz.get (List.getElem?_eq_getElem kv)
            rw [List.getD_eq_getElem?_getD, he0]
            exact hz
          have gf : (free p.2.1 F).getD (ks.length - 1 - i) 0 = (free p.2.1 F)[ks.length - 1 - i] := by rw [List.getD_eq_getElem?_getD, List.getElem?_eq_getElem kf]; rfl
          show tDrop _ _ [some u, some (.ref va), some w, some y, some (.ref td), some (.ref xa), some (.ref fa), some (.ref hp), some (.ref ll), some (vi (ks.length - 1 - i)), none] H14
          have hxa14 := et14 _ _ (ex_t e1012 hxa)
          have hfa14 := et14 _ _ (ex_t e1012 hfa)
          have pl : pa.length ≤ 30000 := by
            have z : pa.length = F.length := pql
            omega
          refine s_appP td14 (ev_var rfl) (ep_tup3 (K := K) (P1 := fun v H' => Nats K H' v (pa ++ [ks.length - 1 - i])) (P2 := fun v H' => Nats K H' v (F ++ [(free p.2.1 F).getD (ks.length - 1 - i) 0])) (P3 := fun v H' => Dz K p0 c0 H v (ks.getD (ks.length - 1 - i) .none))
            (tv_nats (K := K) (ns := pa ++ [ks.length - 1 - i]) (tv_is (tv_cat (tv_ev (ev_var rfl) hxa14) (tv_tup (xs := [vi (ks.length - 1 - i)]) (ea_cons (ev_var rfl) ea_nil) (by show 1 ≤ 100000; decide)) (by rw [List.length_map]; show pa.length + 1 ≤ 100000; omega)) (by rw [List.map_append]; rfl)))
            (tv_nats (K := K) (ns := F ++ [(free p.2.1 F).getD (ks.length - 1 - i) 0]) (tv_is (tv_cat (tv_ev (ev_var rfl) hfa14) (tv_tup (xs := [vi (free p.2.1 F)[ks.length - 1 - i]]) (ea_cons (ev_op (ev_var rfl) (ev_var rfl) (rv_ixL (K := K) (sq_of hll14) (atI_vi (k := ks.length - 1 - i) (by rw [List.getElem?_map, List.getElem?_eq_getElem kf]; rfl)))) ea_nil) (by show 1 ≤ 100000; decide)) (by rw [List.length_map]; show F.length + 1 ≤ 100000; omega)) (by rw [List.map_append, gf]; rfl)))
            (ep_ev (ev_op (ev_op (ev_var rfl) ev_c (rv_ixT (K := K) (ex_t x14 sh) (atI_vi (k := 1) rfl))) (ev_var rfl) (rv_ixL (K := K) (sq_of (x14 _ _ hla)) (atI_vi (k := ks.length - 1 - i) (List.getElem?_eq_getElem kv)))) fun H' e' => dk)
            (fun v H H' e h => h.ex e) (fun v H H' e h => h.ex e) (fun v H H' e h => h)) (by omega) fun nv H15 e15 hnv => ?_
          have td15 := e15 _ _ td14
          have et15 : ET K H14 (upd H15 td (.lst (us' ++ [nv]))) := ET.trans (Dw.Ex.et e15) (ET.refl.upd td15)
          have et15b : ET K H15 (upd H15 td (.lst (us' ++ [nv]))) := ET.refl.upd td15
          have hr2 : (kids3 p.2.1 pa F ks).reverse[i]? = some (pa ++ [ks.length - 1 - i], F ++ [(free p.2.1 F).getD (ks.length - 1 - i) 0], ks.getD (ks.length - 1 - i) .none) := by
            rw [List.getElem?_reverse (by rw [kl]; exact hi), kl]
            exact kids3_at kk
          refine ⟨(x14.trans e15).mut ntH, ET.trans et14 et15, fun b nb xs hxs => by rw [upd_ne nb]; exact e15 _ _ (kp14 b nb xs hxs), us' ++ [nv], _, upd_same, ?_, rfl⟩
          rw [List.take_add_one, hr2, ← List.append_assoc]
          refine paired_snoc (EnV.et et15b ?_) (paired_imp (fun _ _ z => z.et et15) p14)
          obtain ⟨pp, a1, b1, c1, ev, sp, ha1, hb1, hc1⟩ := hnv
          exact ⟨pp, a1, b1, c1, ev, sp, ha1, hb1, hc1⟩
        · obtain ⟨x14, et14, kp14, us', y9', td14, p14, hσ⟩ := hP
          subst hσ
          have full : (kids3 p.2.1 pa F ks).reverse.take ks.length = (kids3 p.2.1 pa F ks).reverse := List.take_of_length_le (by rw [List.length_reverse, kl]; exact Nat.le_refl _)
          rw [full] at p14
          have es : esz (b ++ (kids3 p.2.1 pa F ks).reverse) = esz b + nds ks := by rw [esz_app, esz_rev, ksz]
          rw [ov_case hb] at val
          refine ⟨esz (b ++ (kids3 p.2.1 pa F ks).reverse), by rw [es, ndt]; omega, x14, b ++ (kids3 p.2.1 pa F ks).reverse, us', _, _, _, _, _, rfl, td14, p14, fun e he => ?_, by rw [es]; omega, by rw [fs_kids]; exact val, rfl⟩
          rcases List.mem_append.mp he with he | he
          · exact goodb e he
          · obtain ⟨i, hi⟩ := List.mem_iff_getElem?.mp (List.mem_reverse.mp he)
            have il : i < ks.length := by rw [← kl]; exact (List.getElem?_eq_some_iff.mp hi).1
            have il2 : i < (free p.2.1 F).length := by omega
            rw [kids3_at il] at hi
            cases Option.some.inj hi
            have gf : (free p.2.1 F).getD i 0 = (free p.2.1 F)[i] := by rw [List.getD_eq_getElem?_getD, List.getElem?_eq_getElem il2]; rfl
            obtain ⟨a, c⟩ := mem_free.mp (List.getElem_mem il2)
            refine ⟨?_, ?_, by show (pa ++ [_]).length = (F ++ [_]).length; rw [List.length_append, List.length_append, show pa.length = F.length from pql]; rfl⟩
            · have := bgF.snoc a c
              show Bg p.2.1 (F ++ [_]).length (F ++ [_])
              rw [List.length_append, gf]
              exact this
            · show Gd 50 30000 (ks.getD i .none)
              rw [List.getD_eq_getElem?_getD, List.getElem?_eq_getElem il]
              exact gd_memL (gd_mem gdF (List.mem_cons_of_mem _ (List.mem_singleton.mpr rfl))) (List.getElem_mem il)
      · -- none
        have x11 := x10.trans e11
        have hb2 : caseB (p.2.1 - F.length) t' = false := hb
        rw [ov_leaf hb2] at val
        refine s_when (b := !clashB p p2 F t') (et_not (et_val (ev_callV (v := .bl (clashB p p2 F t')) ((p0, c0), p, p2, F, t') (ea_cons (ev_var rfl) (ea_cons (ev_var rfl) (ea_cons (ev_var rfl) (ea_cons (ev_var rfl) (ea_cons (ev_var rfl) ea_nil))))) (fun H12 e12 => ⟨⟨_, _, _, _, _, rfl, hm.ex (x11.trans e12), hw.ex (x11.trans e12), hf.ex (e11.trans e12), tr.ex (x11.trans e12)⟩, tw, bgF, gdF⟩) (fun _ _ z => z)))) (fun hc H12 e12 => ?_) (fun hc H12 e12 => ?_)
        · rw [Bool.not_eq_true'] at hc
          rw [if_neg (by rw [hc]; decide)] at val
          exact s_ret (ev_var rfl) fun H13 e13 => q _ H13 ((x11.trans e12).trans e13) (by
            rw [← val]
            exact hx.ex ((e11.trans e12).trans e13))
        · rw [Bool.not_eq_false'] at hc
          rw [if_pos hc] at val
          have := nd_pos t'
          exact ⟨esz b, by omega, x11.trans e12, b, ws, _, _, _, _, _, rfl, (e11.trans e12) _ _ td10, paired_imp (fun _ _ z => z.et (Dw.Ex.et (e11.trans e12))) pb10, goodb, by omega, val, rfl⟩
    · have em : stk = [] := by
        cases prs with
        | nil => rfl
        | cons _ _ => cases hb
      subst em
      have v0 : oddT p p2 p.2.1 [] [] t = none := val.symm
      exact s_ret ev_c fun H9 e9 => q _ H9 ((e7.trans e8).trans e9) (by
        rw [v0]
        rfl)
end
end K22
end
section
namespace K22
open PySem PySem.Spec PyProof.Rows L2 Evl RZ Dw M20 M25 CL LK
def snd : PyData → PyData
  | .tuple (_ :: b :: _) => b
  | _ => .none
def treeD : Option (List Nat) → PyData
  | none => .none
  | some q => .tuple [.str "tree", dN q]
def judgedW (x y : MArg) (d : PyData) : PyData := if formP d = true then (if (decide (x.2.1 = y.2.1) == isS "size" (head0 d)) = true then .tuple [.str "size"] else if (isS "map" (head0 d) && !leadsB x y (snd d)) = true then .tuple [.str "map"] else if isS "none" (head0 d) = true then treeD (oddT x y x.2.1 [] [] (snd d)) else .none) else .tuple [.str "paper"]
theorem form_cases {d : PyData} (h : formP d = true) : (∃ a, d = .tuple [a] ∧ isS "size" a = true) ∨ ∃ a b, d = .tuple [a, b] ∧ (isS "map" a = true ∨ isS "none" a = true) := by
  match d, h with
  | .tuple [a], h => exact .inl ⟨a, rfl, h⟩
  | .tuple [a, b], h =>
    have h2 : (isS "map" a || isS "none" a) = true := h
    rw [Bool.or_eq_true] at h2
    exact .inr ⟨a, b, rfl, h2⟩
  | .tuple [], h => cases h
  | .tuple (_ :: _ :: _ :: _), h => cases h
  | .none, h => cases h
  | .bool _, h => cases h
  | .int _, h => cases h
  | .str _, h => cases h
  | .list _, h => cases h
  | .dict _, h => cases h
theorem isS_str {s : Str} {a : PyData} (h : isS s a = true) : a = .str s := by
  cases a with
  | str z => rw [show z = s from of_decide_eq_true h]
  | _ => cases h
section
variable {P : Program} {w : World} {K : PySem.W.Frag} {mg : Str → Option Value} {base : Heap} {σ : L2.St} {H : Hp} {p c : Addr}
theorem et_eqb {ta tb : TE} {a b : Bool} (ha : Ev ta σ H (.bl a)) (hb : Ev tb σ H (.bl b)) : EvT (tTest (tOp rEq ta tb)) σ H (a == b) := et_is (et_test (ev_op ha hb (rv_eq rfl))) (by cases a <;> cases b <;> rfl)
def sp_judged_any (K : PySem.W.Frag) : Sp := spX (fun (z : (Addr × Addr) × MArg × MArg × PyData) vs H => (∃ u v w y, vs = [u, v, w, y] ∧ MA K H u v z.2.1 ∧ Mdl K H w z.2.2.1.2.1 z.2.2.1.2.2 ∧ Dz K z.1.1 z.1.2 H y z.2.2.2) ∧ Pair2 z.2.1 z.2.2.1 ∧ Gd 50 30000 z.2.2.2) (fun z v H => Dp K H v (judgedW z.2.1 z.2.2.1 z.2.2.2))
theorem c_judged_any (T : Txt mg) (D : Df K mg "likeness_judged" s_likeness_judged ["signature", "one", "other", "paper"]) (c_need_two_models : Cl P w K mg base 8 "need_two_models" (sp_need_two K)) (c_form_any : Cl P w K mg base 1 "has_paper_form" (sp_form_any K)) (c_leads_any : Cl P w K mg base 5 "leads_there" (sp_leads_any K)) (c_first_odd_place : Cl P w K mg base 5 "first_odd_place" (sp_first_odd K)) : Cl P w K mg base 9 "likeness_judged" (sp_judged_any K) := by
  refine cl_of (k := 8) D sc_likeness_judged (fun vs H Q E h => ?_) (fun f cdv A outer s H vs Q E hr h => ?_)
  · obtain ⟨z, ⟨⟨u, v, w, y, rfl, _⟩, _⟩, _⟩ := h
    rfl
  · obtain ⟨⟨⟨p0, c0⟩, p, p2, d⟩, ⟨⟨u, v, x3, y, rfl, hm, hw, hy⟩, pr, g⟩, q⟩ := h
    have c_has_paper_form := c_form_any
    have c_leads_there := c_leads_any
    refine ⟨_, (pss_cons (ps_expr (pe_cl c_need_two_models hr (by first | decide | omega) (by rfl) (pa_cons (pv 0) (pa_cons (pv 1) (pa_cons (pv 2) pa_nil)))))
      (pss_cons (ps_if (pt_not (pt_val (pe_cl c_has_paper_form hr (by first | decide | omega) (by rfl) (pa_cons (pv 3) pa_nil))))
        (pss_one (ps_ret (pe_tup (pa_cons pe_str pa_nil))))
        pss_nil)
      (pss_cons (ps_if (pt_cmpR op_eq (pe_cmpR op_eq (pe_ix ix_tup (pv 1) pe_int (fun _ _ => rfl)) (pe_ix ix_tup (pv 2) pe_int (fun _ _ => rfl)) (nomark _)) (pe_cmpR (op_eqD hr.units) (pe_ix ix_tup (pv 3) pe_int (fun _ _ => rfl)) pe_str (nomark _)) (nomark _))
        (pss_one (ps_ret (pe_tup (pa_cons pe_str pa_nil))))
        pss_nil)
      (pss_cons (ps_if (PW.pt (pw_and (pt_cmpR (op_eqD hr.units) (pe_ix ix_tup (pv 3) pe_int (fun _ _ => rfl)) pe_str (nomark _)) (pw_and1 (pt_not (pt_val (pe_cl c_leads_there hr (by first | decide | omega) (by rfl) (pa_cons (pv 0) (pa_cons (pv 1) (pa_cons (pv 2) (pa_cons (pe_ix ix_tup (pv 3) pe_int (fun _ _ => rfl)) pa_nil))))))))))
        (pss_one (ps_ret (pe_tup (pa_cons pe_str pa_nil))))
        pss_nil)
      (pss_cons (ps_if (pt_cmpR (op_eqD hr.units) (pe_ix ix_tup (pv 3) pe_int (fun _ _ => rfl)) pe_str (nomark _))
        (pss_cons (ps_set (i := 4) sc_likeness_judged.nd rfl (.inl rfl) (pe_cl c_first_odd_place hr (by first | decide | omega) (by rfl) (pa_cons (pv 0) (pa_cons (pv 1) (pa_cons (pv 2) (pa_cons (pe_ix ix_tup (pv 3) pe_int (fun _ _ => rfl)) pa_nil))))))
        (pss_one (ps_ret (pe_ifExp (pt_cmpR op_isN (pv 4) pe_non (nomark _)) pe_non (pe_tup (pa_cons pe_str (pa_cons (pv 4) pa_nil)))))))
        pss_nil)
      (pss_one (ps_ret pe_non))))))), ?_⟩
    replace hm : MA K H u v p := hm
    replace hw : Mdl K H x3 p2.2.1 p2.2.2 := hw
    replace hy : Dz K p0 c0 H y d := hy
    replace pr : Pair2 p p2 := pr
    replace g : Gd 50 30000 d := g
    replace q : ∀ v H', Ex H H' → Dp K H' v (judgedW p p2 d) → Q v H' := q
    obtain ⟨va, vt, rfl, hva, hvt⟩ := id hm.2
    obtain ⟨wa, wt, rfl, hwa, hwt⟩ := id hw
    refine q_drop (v := .non) (ev_callV (p, p2) (ea_cons (ev_var rfl) (ea_cons (ev_var rfl) (ea_cons (ev_var rfl) ea_nil))) (fun H1 e1 => ⟨⟨_, _, _, rfl, hm.ex e1, hw.ex e1⟩, pr.ok, pr.ok2, pr.es⟩) (fun _ _ z => z)) fun H1 e1 => ?_
    refine q_when (b := !formP d) (et_not (et_val (ev_callV (v := .bl (formP d)) ((p0, c0), d) (ea_cons (ev_var rfl) ea_nil) (fun H2 e2 => ⟨⟨_, rfl, hy.ex (e1.trans e2)⟩, g⟩) (fun _ _ z => z)))) (fun hb H2 e2 => ?_) (fun hb H2 e2 => ?_)
    · rw [Bool.not_eq_true'] at hb
      refine s_retP (tv_tup (K := K) (xs := [.str "paper"]) (ea_cons ev_c ea_nil) (by show 1 ≤ 100000; decide)) fun rv H3 e3 hv => q _ H3 ((e1.trans e2).trans e3) ?_
      rw [judgedW, if_neg (by rw [hb]; decide)]
      obtain ⟨b, rfl, sb⟩ := hv
      exact .tup sb (.cons (.str _) .nil)
    · rw [Bool.not_eq_false'] at hb
      have e02 := e1.trans e2
      have hsz : Ev (tOp rEq (tOp (rIxT K) (tVar 1) (tC (.int 0))) (tOp (rIxT K) (tVar 2) (tC (.int 0)))) [some u, some (.ref va), some (.ref wa), some y, none] H2 (.bl (decide (p.2.1 = p2.2.1))) := ev_is (ev_op (ev_op (ev_var rfl) ev_c (rv_ixT (K := K) (ex_t e02 hva) (atI_vi (k := 0) rfl))) (ev_op (ev_var rfl) ev_c (rv_ixT (K := K) (ex_t e02 hwa) (atI_vi (k := 0) rfl))) (rv_eq rfl)) (by rw [vi_eq])
      have jw : judgedW p p2 d = if (decide (p.2.1 = p2.2.1) == isS "size" (head0 d)) = true then .tuple [.str "size"] else if (isS "map" (head0 d) && !leadsB p p2 (snd d)) = true then .tuple [.str "map"] else if isS "none" (head0 d) = true then treeD (oddT p p2 p.2.1 [] [] (snd d)) else .none := by rw [judgedW, if_pos hb]
      rw [jw] at q
      -- what is at the head
      obtain ⟨ya, x0, ds, rfl, hsy, h0, gh, hsec⟩ : ∃ ya x xs, y = .ref ya ∧ SqT K H ya (x :: xs) ∧ Dz K p0 c0 H x (head0 d) ∧ Gd 50 30000 (head0 d) ∧ ∀ a b, d = .tuple [a, b] → ∃ x1, xs = [x1] ∧ Dz K p0 c0 H x1 b ∧ Gd 50 30000 b := by
        rcases form_cases hb with ⟨a, rfl, _⟩ | ⟨a, b, rfl, _⟩
        · obtain ⟨ya, xs, ds, rfl, ed, sy, hD⟩ := tup_of hy rfl
          cases ed
          cases hD with
          | cons hx hn => exact ⟨ya, _, _, rfl, sy, hx, gd_mem g (List.mem_cons_self ..), fun a b z => by cases z⟩
        · obtain ⟨ya, xs, ds, rfl, ed, sy, hD⟩ := tup_of hy rfl
          cases ed
          obtain ⟨x1, x2, rfl, hx, h2⟩ := two_dz hD
          exact ⟨ya, _, _, rfl, sy, hx, gd_mem g (List.mem_cons_self ..), fun a b z => by
            cases z
            exact ⟨_, rfl, h2, gd_mem g (List.mem_cons_of_mem _ (List.mem_singleton.mpr rfl))⟩⟩
      have hd0 : ∀ {s : Str} {H3 : Hp}, Ex H2 H3 → SeqAt.shaped (.str s) = true → Ev (tOp (rEqD K) (tOp (rIxT K) (tVar 3) (tC (.int 0))) (tC (.str s))) [some u, some (.ref va), some (.ref wa), some (.ref ya), none] H3 (.bl (isS s (head0 d))) := fun {s H3} e hs => ev_eqS (K := K) (ev_op (ev_var rfl) ev_c (rv_ixT (K := K) (ex_t (e02.trans e) hsy) (atI_vi (k := 0) rfl))) (h0.ex (e02.trans e)) gh (by decide) ev_c hs
      refine q_when (b := decide (p.2.1 = p2.2.1) == isS "size" (head0 d)) (et_eqb hsz (hd0 (Ex.refl _) (by decide +kernel))) (fun hs H3 e3 => ?_) (fun hs H3 e3 => ?_)
      · rw [if_pos hs] at q
        refine s_retP (tv_tup (K := K) (xs := [.str "size"]) (ea_cons ev_c ea_nil) (by show 1 ≤ 100000; decide)) fun rv H4 e4 hv => q _ H4 ((e02.trans e3).trans e4) ?_
        obtain ⟨b, rfl, sb⟩ := hv
        exact .tup sb (.cons (.str _) .nil)
      · rw [if_neg (by rw [hs]; decide)] at q
        have e03 := e02.trans e3
        -- the second thing, where the word is map or none
        have second : (isS "map" (head0 d) = true ∨ isS "none" (head0 d) = true) → Two p p2 ∧ ∃ x1 xs1, ds = x1 :: xs1 ∧ Dz K p0 c0 H x1 (snd d) ∧ Gd 50 30000 (snd d) := fun hw2 => by
          have ns : isS "size" (head0 d) = false := by
            rcases hw2 with h | h <;> (rw [isS_str h]; decide +kernel)
          rw [ns] at hs
          have en : p.2.1 = p2.2.1 := by
            cases hq : decide (p.2.1 = p2.2.1) with
            | true => exact of_decide_eq_true hq
            | false => rw [hq] at hs; cases hs
          refine ⟨⟨pr.ok, pr.ok2, pr.es, en.symm⟩, ?_⟩
          rcases form_cases hb with ⟨a, rfl, ha⟩ | ⟨a, b, rfl, _⟩
          · have ha2 : isS "size" a = false := ns
            rw [ha] at ha2
            cases ha2
          · obtain ⟨x1, rfl, h2, g2⟩ := hsec a b rfl
            exact ⟨_, _, rfl, h2, g2⟩
        refine q_when (b := isS "map" (head0 d) && !leadsB p p2 (snd d)) (et_and (et_test (hd0 e3 (by decide +kernel))) (fun hw2 => ?_)) (fun hm2 H4 e4 => ?_) (fun hm2 H4 e4 => ?_)
        · obtain ⟨tw, x1, xs1, rfl, hz, _⟩ := second (.inl hw2)
          exact et_not (et_val (ev_callV (v := .bl (leadsB p p2 (snd d))) ((p0, c0), p, p2, snd d) (ea_cons (ev_var rfl) (ea_cons (ev_var rfl) (ea_cons (ev_var rfl) (ea_cons (ev_op (ev_var rfl) ev_c (rv_ixT (K := K) (ex_t e03 hsy) (atI_vi (k := 1) rfl))) ea_nil)))) (fun H4 e4 => ⟨⟨_, _, _, _, rfl, hm.ex (e03.trans e4), hw.ex (e03.trans e4), hz.ex (e03.trans e4)⟩, tw⟩) (fun _ _ z => z)))
        · rw [if_pos hm2] at q
          refine s_retP (tv_tup (K := K) (xs := [.str "map"]) (ea_cons ev_c ea_nil) (by show 1 ≤ 100000; decide)) fun rv H5 e5 hv => q _ H5 ((e03.trans e4).trans e5) ?_
          obtain ⟨b, rfl, sb⟩ := hv
          exact .tup sb (.cons (.str _) .nil)
        · rw [if_neg (by rw [hm2]; decide)] at q
          have e04 := e03.trans e4
          refine q_when (b := isS "none" (head0 d)) (et_test (hd0 (e3.trans e4) (by decide +kernel))) (fun hn H5 e5 => ?_) (fun hn H5 e5 => ?_)
          · rw [if_pos hn] at q
            obtain ⟨tw, x1, xs1, rfl, hz, g1⟩ := second (.inr hn)
            have e05 := e04.trans e5
            refine q_asgP (ep_call ((p0, c0), p, p2, snd d) (ea_cons (ev_var rfl) (ea_cons (ev_var rfl) (ea_cons (ev_var rfl) (ea_cons (ev_op (ev_var rfl) ev_c (rv_ixT (K := K) (ex_t e05 hsy) (atI_vi (k := 1) rfl))) ea_nil)))) (fun H6 e6 => ⟨⟨_, _, _, _, rfl, hm.ex (e05.trans e6), hw.ex (e05.trans e6), hz.ex (e05.trans e6)⟩, tw, g1⟩)) fun pv H6 e6 hpv => ?_
            replace hpv : OdV K H6 pv (oddT p p2 p.2.1 [] [] (snd d)) := hpv
            have e06 := e05.trans e6
            cases hq : oddT p p2 p.2.1 [] [] (snd d) with
            | none =>
              rw [hq] at hpv q
              replace hpv : pv = .non := hpv
              subst hpv
              exact do_ret (do_ifX (b := true) (et_is (et_isNone (ev_var rfl)) rfl) (fun _ H7 e7 => do_ev ev_c fun H8 e8 => q _ H8 (e06.trans (e7.trans e8)) .non) (fun z => by cases z))
            | some pq =>
              rw [hq] at hpv q
              replace hpv : Nats K H6 pv pq := hpv
              obtain ⟨pa, rfl, spa⟩ := id hpv
              refine do_ret (do_ifX (b := false) (et_is (et_isNone (ev_var rfl)) rfl) (fun z => by cases z) (fun _ H7 e7 => ?_))
              refine tv_tup (K := K) (xs := [.str "tree", .ref pa]) (ea_cons ev_c (ea_cons (ev_var rfl) ea_nil)) (by show 2 ≤ 100000; decide) H7 (Ex.refl _) _ fun rv H8 e8 hv => q _ H8 (e06.trans (e7.trans e8)) ?_
              obtain ⟨b, rfl, sb⟩ := hv
              exact .tup sb (.cons (.str _) (.cons (hpv.ex (e7.trans e8)).dp .nil))
          · rw [if_neg (by rw [hn]; decide)] at q
            exact s_ret ev_c fun H6 e6 => q _ H6 ((e04.trans e5).trans e6) .non
end
end K22
end
section
namespace K22
open PySem PySem.Spec PyProof.Rows L2 Evl RZ Dw M20 M25 CL LK LD
theorem pow_36 {n p : Nat} (n6 : n ≤ 6) (p2 : p ≤ 2) : n ^ p ≤ 36 := by
  have h1 : n ^ p ≤ 6 ^ p := Nat.pow_le_pow_left n6 p
  have h2 : 6 ^ p ≤ 6 ^ 2 := Nat.pow_le_pow_right (by decide) p2
  omega
theorem plc_snoc (n : Nat) (l : List Nat) (x : Nat) : plc n (l ++ [x]) = plc n l * n + x := by
  unfold plc
  rw [List.foldl_append]
  rfl
theorem filt_all {α : Type} (f : α → Bool) (d : α) (rs : List α) {n : Nat} (hn : n = rs.length) : ((List.range n).filter fun i => !f (rs.getD i d)).isEmpty = rs.all f := by
  subst hn
  refine Bool.eq_iff_iff.mpr ?_
  rw [List.isEmpty_iff, List.filter_eq_nil_iff, List.all_eq_true]
  constructor
  · intro h x hx
    obtain ⟨i, hi⟩ := List.mem_iff_getElem?.mp hx
    have il := (List.getElem?_eq_some_iff.mp hi).1
    have := h i (List.mem_range.mpr il)
    rw [List.getD_eq_getElem?_getD, hi] at this
    cases hf : f x with
    | true => rfl
    | false => exact absurd (by rw [show (some x).getD d = x from rfl, hf]; rfl) this
  · intro h i hi hh
    have il := List.mem_range.mp hi
    rw [List.getD_eq_getElem?_getD, List.getElem?_eq_getElem il, show (some rs[i]).getD d = rs[i] from rfl, h _ (List.getElem_mem il)] at hh
    cases hh
section
variable {K : PySem.W.Frag} {σ : L2.St} {H H' : Hp} {ta tb tc td te : TE} {p c : Addr} {v : V} {d : PyData} {n m t : Nat}
theorem do_par {i j : Nat} {t : TA} {tz : TS} {D : Ends} (h : t σ H fun vs H1 => ∃ x y, vs = [x, y] ∧ tz D ((σ.set i (some x)).set j (some y)) H1) : tSeq (tPar i j t) tz D σ H := h
theorem paired_dp {f : Nat → PyData} : ∀ {ws : List V} {xs : List Nat}, Paired (fun v i => Dp K H v (f i)) ws xs → DpAll K H ws (xs.map f)
  | _, _, .nil => .nil
  | _, _, .cons a b => .cons a (paired_dp b)
theorem paired_memR {α β : Type} {R : α → β → Prop} {S : α → β → Prop} : ∀ {xs : List α} {ys : List β}, Paired R xs ys → (∀ x y, y ∈ ys → R x y → S x y) → Paired S xs ys
  | _, _, .nil, _ => .nil
  | _, _, .cons a b, h => .cons (h _ _ (List.mem_cons_self ..) a) (paired_memR b fun x y hy r => h x y (List.mem_cons_of_mem _ hy) r)
/-- xs != [], the list by what it holds -/
theorem ev_neNilB {xs : List Nat} {u : Nat → V} {f : Nat → PyData} (h : EvLP te σ H (fun ws _ => Paired (fun v i => v = u i) ws xs)) (hz : ∀ i ∈ xs, ∀ H', Ex H H' → Dz K p c H' (u i) (f i)) (gf : ∀ i ∈ xs, Gd 50 30000 (f i)) : Ev (tOp (rNeD K) te (tLst tNil)) σ H (.bl (!xs.isEmpty)) := fun H1 e Q q =>
  do_op (h H1 e _ fun l ws H2 nl e2 hl pw => do_lst (do_nil ⟨Nat.zero_le _, fun r nr => by
    have e3 : Ex H2 (upd H2 r (.lst [])) := Ex.new nr
    have dp : DpAll K (upd H2 r (.lst [])) ws (xs.map f) := paired_dp (paired_memR pw fun x i hi z => by
      rw [z]
      exact (hz i hi _ ((e.trans e2).trans e3)).dp)
    refine ⟨.list (xs.map f), .list [], .lst (sq_of (e3 _ _ hl)) dp, .lst (sq_of upd_same) .nil, (gd_lst (k := 50) (W := 30000) (L := (xs.map f).length) (fun d hd => ?_) (Nat.le_refl _)).shaped (by decide), by decide +kernel, ?_⟩
    · obtain ⟨i, hi, rfl⟩ := List.mem_map.mp hd
      exact gf i hi
    · have : PyData.eqv (.list (xs.map f)) (.list []) = xs.isEmpty := by
        cases xs with
        | nil => simp [PyData.eqv, PyData.eqvAll]
        | cons a b => simp [PyData.eqv, PyData.eqvAll]
      rw [this]
      exact q _ ((e2.trans e3))⟩))
/-- no bool and an int, by its parts -/
theorem et_noInt (ha : Ev ta σ H v) (hb : Ev tb σ H (.ty "bool")) (ha2 : Ev tc σ H v) (hc : Ev td σ H (.ty "int")) (h : Dz K p c H v d) : EvT (tOr (fun σ H Q => tCB (rIsi K) (tCons ta (tCons tb tNil)) σ H fun x H' => ∃ k, x = .bl k ∧ Q k H') (tNot (fun σ H Q => tCB (rIsi K) (tCons tc (tCons td tNil)) σ H fun x H' => ∃ k, x = .bl k ∧ Q k H'))) σ H (!wholeB d) := by
  cases h with
  | non => exact et_is (et_or (a := false) (b := true) (et_val (ev_isi (b := false) ha hb (.ty _) (fun _ _ => tyx_non) (kit_ty (by decide +kernel)))) (fun _ => et_is (et_not (et_val (ev_isi (b := false) ha2 hc (.ty _) (fun _ _ => tyx_non) (kit_ty (by decide +kernel))))) rfl)) rfl
  | bl b => exact et_is (et_or (a := true) (b := false) (et_val (ev_isi (b := true) ha hb (.ty _) (fun _ _ => tyx_bl b) (kit_ty (by decide +kernel)))) (fun z => by cases z)) rfl
  | int i => exact et_is (et_or (a := false) (b := false) (et_val (ev_isi (b := false) ha hb (.ty _) (fun _ _ => tyx_int i) (kit_ty (by decide +kernel)))) (fun _ => et_is (et_not (et_val (ev_isi (b := true) ha2 hc (.ty _) (fun _ _ => tyx_int i) (kit_ty (by decide +kernel))))) rfl)) rfl
  | str z => exact et_is (et_or (a := false) (b := true) (et_val (ev_isi (b := false) ha hb (.ty _) (fun _ _ => tyx_str z) (kit_ty (by decide +kernel)))) (fun _ => et_is (et_not (et_val (ev_isi (b := false) ha2 hc (.ty _) (fun _ _ => tyx_str z) (kit_ty (by decide +kernel))))) rfl)) rfl
  | lst h _ _ _ => exact et_is (et_or (a := false) (b := true) (et_val (ev_isi (b := false) ha hb (.ty _) (fun _ e => .base (.lst (e _ _ h))) (kit_ty (by decide +kernel)))) (fun _ => et_is (et_not (et_val (ev_isi (b := false) ha2 hc (.ty _) (fun _ e => .base (.lst (e _ _ h))) (kit_ty (by decide +kernel))))) rfl)) rfl
  | tup h _ => exact et_is (et_or (a := false) (b := true) (et_val (ev_isi (b := false) ha hb (.ty _) (fun _ e => tyx_tup (ex_t e h)) (kit_ty (by decide +kernel)))) (fun _ => et_is (et_not (et_val (ev_isi (b := false) ha2 hc (.ty _) (fun _ e => tyx_tup (ex_t e h)) (kit_ty (by decide +kernel))))) rfl)) rfl
theorem ev_sindexV {to te : TE} {l : Addr} {ys : List Str} {z : Str} (h : Ev to σ H (.ref l)) (hl : H l = some (.lst (ys.map V.str))) (hz : Ev te σ H (.str z)) (mem : z ∈ ys) : Ev (tBM K "list" (rIndex K) to (tCons te tNil)) σ H (vi (ys.idxOf z)) := fun H1 e Q q =>
  h H1 e _ fun H2 e2 => ⟨Or.inl ⟨rfl, _, sq_of ((e.trans e2) _ _ hl)⟩, hz H2 (e.trans e2) _ fun H3 e3 => by
    have hi : ys.idxOf z < ys.length := List.idxOf_lt_length_iff.mpr mem
    refine ⟨l, ys.map V.str, .str z, ys.idxOf z, .str z, rfl, rfl, sq_of (((e.trans e2).trans e3) _ _ hl), rfl, List.all_eq_true.mpr fun v hv => by obtain ⟨y, _, rfl⟩ := List.mem_map.mp hv; rfl, ?_, by show (z == z) = true; exact beq_self_eq_true z, fun m z' hm hz' => ?_, q H3 (e2.trans e3)⟩
    · rw [List.getElem?_map, List.getElem?_eq_getElem hi, List.getElem_idxOf hi]
      rfl
    · rw [List.getElem?_map, List.getElem?_eq_getElem (by omega)] at hz'
      rw [← Option.some.inj hz']
      show (ys[m] == z) = false
      have := List.not_of_lt_findIdx (p := (· == z)) (xs := ys) (i := m) hm
      simpa using this⟩
theorem range_all (n : Nat) : (List.range n).filter (fun _ => true) = List.range n := List.filter_eq_self.mpr fun _ _ => rfl
theorem paired_eqs {f : Nat → V} : ∀ {vs : List V} {l : List Nat}, Paired (fun v k => v = f k) vs l → vs = l.map f := paired_eq
end
section
variable {P : Program} {w : World} {K : PySem.W.Frag} {mg : Str → Option Value} {base : Heap}
def sp_law_clash (K : PySem.W.Frag) : Sp := spX (fun (z : (Addr × Addr) × MArg × MArg × List Nat × PyData) vs H => (∃ u v w l y, vs = [u, v, w, .ref l, y] ∧ MA K H u v z.2.1 ∧ Mdl K H w z.2.2.1.2.1 z.2.2.1.2.2 ∧ H l = some (.lst (z.2.2.2.1.map vi)) ∧ Dz K z.1.1 z.1.2 H y z.2.2.2.2) ∧ Two z.2.1 z.2.2.1 ∧ Bg z.2.1.2.1 z.2.2.2.1.length z.2.2.2.1 ∧ Gd 50 30000 z.2.2.2.2 ∧ isTup z.2.2.2.2 = true ∧ isS "clash" (head0 z.2.2.2.2) = true) (fun z v _ => v = .bl (clashB z.2.1 z.2.2.1 z.2.2.2.1 z.2.2.2.2))
theorem c_law_clash (T : Txt mg) (D : Df K mg "_law_is_clash" s__law_is_clash ["_law_signature_here", "_law_one", "_law_other", "_law_images", "_law_tree_here"]) : Cl P w K mg base 1 "_law_is_clash" (sp_law_clash K) := by
  refine cl_of (k := 0) D sc__law_is_clash (fun vs H Q E h => ?_) (fun f cdv A outer s H vs Q E hr h => ?_)
  · obtain ⟨z, ⟨⟨u, v, w, l, y, rfl, _⟩, _⟩, _⟩ := h
    rfl
  · obtain ⟨⟨⟨p0, c0⟩, p, p2, F, d⟩, ⟨⟨u, v, w, fl, y, rfl, hm, hw, hf, hy⟩, tw, hF, g, ht, hd⟩, q⟩ := h
    refine ⟨_, (pss_cons (ps_if (PW.pt (pw_or (pt_cmpR op_ne (pe_callB call_len_seq (by rfl) T.z_len PySem.boot_len (pa_cons (pv 4) pa_nil)) pe_int (nomark _)) (pw_or1 (pt_not (pt_val (pe_callB call_isi (by rfl) T.z_isinstance (by decide +kernel) (pa_cons (pe_ix ix_tup (pv 4) pe_int (fun _ _ => rfl)) (pa_cons (pe_ty "tuple" (by rfl) T.z_tuple (by decide +kernel)) pa_nil))))))))
        (pss_one (ps_ret pe_bl))
        pss_nil)
      (pss_cons (ps_if (pt_cmpR (op_neD hr.units) (pe_lc (own := [("_law_number", 9)]) (g := (gName 9)) (by rfl) sc__law_is_clash.nd (pi_tup (pe_ix ix_tup (pv 4) pe_int (fun _ _ => rfl))) (blkOk_by (own := [("_law_number", 9)]) (N := ["_law_signature_here", "_law_one", "_law_other", "_law_images", "_law_tree_here", "_law_titles", "_law_k", "_law_here", "_law_there", "_law_number", "_law_brought", "_law_moved", "_law_name", "_law_places"]) (sc := (defScope s__law_is_clash)) (by decide +kernel)) (fun _ _ _ _ _ => (pg_name (i := 9) sc__law_is_clash.nd rfl (.inl rfl))) (fun _ _ _ _ _ => (pts_one (PW.pt (pw_or (pt_val (pe_callB (call_isiK K) (by rfl) T.z_isinstance (by decide +kernel) (pa_cons (pv 9) (pa_cons (pe_ty "bool" (by rfl) T.z_bool (by decide +kernel)) pa_nil)))) (pw_or1 (pt_not (pt_val (pe_callB (call_isiK K) (by rfl) T.z_isinstance (by decide +kernel) (pa_cons (pv 9) (pa_cons (pe_ty "int" (by rfl) T.z_int (by decide +kernel)) pa_nil)))))))))) (fun _ _ _ _ _ => (pv 9))) (pe_lst pa_nil) (nomark _))
        (pss_one (ps_ret pe_bl))
        pss_nil)
      (pss_cons (ps_setLc (i := 5) (own := [("_law_name", 12), ("_law_places", 13)]) (g := (gTup _ 2 (gCons (gName 12) (gCons (gName 13) gNil)))) (by rfl) sc__law_is_clash.nd rfl rfl (sw_true rfl rfl rfl (by decide +kernel)) (pi_tup (pv 0)) (blkOk_by (own := [("_law_name", 12), ("_law_places", 13)]) (N := ["_law_signature_here", "_law_one", "_law_other", "_law_images", "_law_tree_here", "_law_titles", "_law_k", "_law_here", "_law_there", "_law_number", "_law_brought", "_law_moved", "_law_name", "_law_places"]) (sc := (defScope s__law_is_clash)) (by decide +kernel)) (fun _ _ _ _ _ => (pg_tup (by rfl) (pgs_cons (pg_name (i := 12) sc__law_is_clash.nd rfl (.inl rfl)) (pgs_cons (pg_name (i := 13) sc__law_is_clash.nd rfl (.inl rfl)) pgs_nil)))) (fun _ _ _ _ _ => pts_nil) (fun _ _ _ _ _ => (pv 12)))
      (pss_cons (ps_if (PW.pt (pw_or (pt_cmpR (op_notInD hr.units65) (pe_ix ix_tup (pv 4) pe_int (fun _ _ => rfl)) (pv 5) (by rfl)) (pw_or1 (pt_cmpR op_ne (pe_callB call_len_seq (by rfl) T.z_len PySem.boot_len (pa_cons (pe_ix ix_tup (pv 4) pe_int (fun _ _ => rfl)) pa_nil)) (pe_ix ix_tup (pe_ix ix_tup (pv 0) (pe_bm PySem.F.plainAttrs_list PySem.F.slot_list_index PySem.F.type_list_index mt_index (pv 5) (pa_cons (pe_ix ix_tup (pv 4) pe_int (fun _ _ => rfl)) pa_nil)) (fun _ _ => rfl)) pe_int (fun _ _ => rfl)) (nomark _)))))
        (pss_one (ps_ret pe_bl))
        pss_nil)
      (pss_cons (ps_if (pt_cmpR (op_neD hr.units) (pe_lc (own := [("_law_number", 9)]) (g := (gName 9)) (by rfl) sc__law_is_clash.nd (pi_tup (pe_ix ix_tup (pv 4) pe_int (fun _ _ => rfl))) (blkOk_by (own := [("_law_number", 9)]) (N := ["_law_signature_here", "_law_one", "_law_other", "_law_images", "_law_tree_here", "_law_titles", "_law_k", "_law_here", "_law_there", "_law_number", "_law_brought", "_law_moved", "_law_name", "_law_places"]) (sc := (defScope s__law_is_clash)) (by decide +kernel)) (fun _ _ _ _ _ => (pg_name (i := 9) sc__law_is_clash.nd rfl (.inl rfl))) (fun _ _ _ _ _ => (pts_one (PW.pt (pw_or (pt_cmpR op_lt (pv 9) pe_int (nomark _)) (pw_or1 (pt_cmpR op_ge (pv 9) (pe_callB (call_len_seqK K) (by rfl) T.z_len PySem.boot_len (pa_cons (pv 3) pa_nil)) (nomark _))))))) (fun _ _ _ _ _ => (pv 9))) (pe_lst pa_nil) (nomark _))
        (pss_one (ps_ret pe_bl))
        pss_nil)
      (pss_cons (ps_set (i := 6) sc__law_is_clash.nd rfl (.inl rfl) (pe_bm PySem.F.plainAttrs_list PySem.F.slot_list_index PySem.F.type_list_index mt_index (pv 5) (pa_cons (pe_ix ix_tup (pv 4) pe_int (fun _ _ => rfl)) pa_nil)))
      (pss_cons (ps_asg (pe_tup (pa_cons pe_int (pa_cons pe_int pa_nil))) (pg_tup (by rfl) (pgs_cons (pg_name (i := 7) sc__law_is_clash.nd rfl (.inl rfl)) (pgs_cons (pg_name (i := 8) sc__law_is_clash.nd rfl (.inl rfl)) pgs_nil))))
      (pss_cons (ps_for PassesOwn.never (by rfl) (pi_tup (pe_ix ix_tup (pv 4) pe_int (fun _ _ => rfl))) (pg_name (i := 9) sc__law_is_clash.nd rfl (.inl rfl))
        (pss_cons (ps_set (i := 7) sc__law_is_clash.nd rfl (.inl rfl) (pe_op op_add (pe_op op_mul (pv 7) (pe_ix ix_tup (pv 1) pe_int (fun _ _ => rfl))) (pv 9)))
        (pss_one (ps_set (i := 8) sc__law_is_clash.nd rfl (.inl rfl) (pe_op op_add (pe_op op_mul (pv 8) (pe_ix ix_tup (pv 1) pe_int (fun _ _ => rfl))) (pe_ix ix_list (pv 3) (pv 9) (fun _ _ => rfl)))))))
      (pss_cons (ps_par (i := 10) (j := 11) (by rfl) sc__law_is_clash.nd rfl rfl (by decide) rfl rfl (pa_cons (pe_ix ix_tup (pe_ix ix_tup (pe_ix ix_tup (pv 1) pe_int (fun _ _ => rfl)) (pv 6) (fun _ _ => rfl)) (pv 7) (fun _ _ => rfl)) (pa_cons (pe_ix ix_tup (pe_ix ix_tup (pe_ix ix_tup (pv 2) pe_int (fun _ _ => rfl)) (pv 6) (fun _ _ => rfl)) (pv 8) (fun _ _ => rfl)) pa_nil)) (by rfl))
      (pss_cons (ps_if (pt_cmpR op_lt (pv 10) (pe_callB call_len_seq (by rfl) T.z_len PySem.boot_len (pa_cons (pv 3) pa_nil)) (nomark _))
        (pss_one (ps_ret (pe_cmpR op_ne (pe_ix ix_list (pv 3) (pv 10) (fun _ _ => rfl)) (pv 11) (nomark _))))
        pss_nil)
      (pss_one (ps_ret (pe_cmpR op_in_seq (pv 11) (pv 3) (by rfl)))))))))))))), ?_⟩
    replace hm : MA K H u v p := hm
    replace hw : Mdl K H w p2.2.1 p2.2.2 := hw
    replace hf : H fl = some (.lst (F.map vi)) := hf
    replace hy : Dz K p0 c0 H y d := hy
    replace tw : Two p p2 := tw
    replace hF : Bg p.2.1 F.length F := hF
    replace g : Gd 50 30000 d := g
    replace ht : isTup d = true := ht
    replace hd : isS "clash" (head0 d) = true := hd
    replace q : ∀ r H', Ex H H' → r = .bl (clashB p p2 F d) → Q r H' := q
    obtain ⟨va, vt, rfl, hva, hvt⟩ := id hm.2
    obtain ⟨wa, wt, rfl, hwa, hwt⟩ := id hw
    obtain ⟨vb, vts, rfl, hvb, hvp⟩ := id hvt
    obtain ⟨wb, wts, rfl, hwb, hwp⟩ := id hwt
    obtain ⟨a, us, rfl, hS, hP⟩ := id hm.1
    have lS : us.length = p.1.length := paired_len hP
    have s4 := tw.ok.1.l4
    have n6 := tw.ok.2.n6
    have n1 := tw.ok.2.n1
    obtain ⟨b, xs, ds, rfl, rfl, hA, hD⟩ := tup_of hy ht
    have lx := hD.len
    by_cases l3 : ds.length = 3
    case neg =>
      refine q_when (b := true) (et_is (et_or (a := true) (b := false) (et_is (et_test (len_ne (K := K) (j := 3) (ev_var rfl) hA ev_c)) (by rw [lx, decide_eq_false l3]; rfl)) (fun z => by cases z)) rfl) (fun _ H1 e1 => s_ret ev_c fun H2 e2 => q _ H2 (e1.trans e2) ?_) (fun hb => by cases hb)
      have : clashB p p2 F (.tuple ds) = false := by
        match ds, l3 with
        | [], _ => rfl
        | [_], _ => rfl
        | [_, _], _ => rfl
        | [_, _, _], h => exact absurd rfl h
        | _ :: _ :: _ :: _ :: _, _ => rfl
      rw [this]
    match ds, l3, hD, g, hd, q with
    | [a0, nm, r0], _, hD, g, hd, q =>
    obtain ⟨x, y1, z1, rfl, h0, h1, h2⟩ := three_dz hD
    replace hd : isS "clash" a0 = true := hd
    have gn : Gd 50 30000 nm := gd_mem g (List.mem_cons_of_mem _ (List.mem_cons_self ..))
    have gr : Gd 50 30000 r0 := gd_mem g (List.mem_cons_of_mem _ (List.mem_cons_of_mem _ (List.mem_singleton.mpr rfl)))
    have isF : (∀ e ∈ p.1, isS e.1 nm = true → rowB e.2 F.length r0 = false) → clashB p p2 F (.tuple [a0, nm, r0]) = false := fun h => by
      show (isS "clash" a0 && p.1.any fun d => isS d.1 nm && (rowB d.2 F.length r0 && bad (sysOf p p2) F (d.1, natsT r0))) = false
      rw [hd, Bool.true_and, List.any_eq_false]
      intro e he hh
      rw [Bool.and_eq_true, Bool.and_eq_true] at hh
      rw [h e he hh.1] at hh
      cases hh.2.1
    by_cases tr : isTup r0 = true
    case neg =>
      have tr2 : isTup r0 = false := by simpa using tr
      refine q_when (b := true) (et_is (et_or (a := false) (b := true) (et_is (et_test (len_ne (K := K) (j := 3) (ev_var rfl) hA ev_c)) rfl) (fun _ => et_is (et_not (et_val (ev_isTup (K := K) (ev_op (ev_var rfl) ev_c (rv_ixT (K := K) hA (atI_vi (k := 2) rfl))) ev_c h2))) (by rw [tr2]; rfl))) rfl) (fun _ H1 e1 => s_ret ev_c fun H2 e2 => q _ H2 (e1.trans e2) ?_) (fun hb => by cases hb)
      rw [isF fun e _ _ => by cases r0 <;> first | rfl | cases tr2]
    refine q_when (b := false) (et_is (et_or (a := false) (b := false) (et_is (et_test (len_ne (K := K) (j := 3) (ev_var rfl) hA ev_c)) rfl) (fun _ => et_is (et_not (et_val (ev_isTup (K := K) (ev_op (ev_var rfl) ev_c (rv_ixT (K := K) hA (atI_vi (k := 2) rfl))) ev_c h2))) (by rw [tr]; rfl))) rfl) (fun hb => by cases hb) (fun _ H1 e1 => ?_)
    obtain ⟨ra, us2, rs, rfl, rfl, hR, hRD⟩ := tup_of h2 tr
    have lr := hRD.len
    have gi : ∀ i, Gd 50 30000 (rs.getD i .none) := fun i => by
      rw [List.getD_eq_getElem?_getD]
      cases hi : rs[i]? with
      | none => exact ⟨by show PyData.canLay0 PyData.none = true; rw [PyData.canLay0], by show PyData.depth PyData.none ≤ 50; rw [PyData.depth]; omega, by show PyData.weight PyData.none ≤ 30000; rw [PyData.weight]; omega, by show PyData.intsShort 13 PyData.none = true; rw [PyData.intsShort], by show PyData.showable PyData.none = true; rw [PyData.showable]⟩
      | some z => exact gd_mem gr (List.mem_of_getElem? hi)
    have few : us2.length ≤ 40000 := by
      have h1 := gr.wgt
      rw [PyData.weight] at h1
      have h2 := weight_len rs
      omega
    have at_ : ∀ {i : Nat}, i ∈ List.range us2.length → ∀ H', Ex H H' → Dz K p0 c0 H' (us2.getD i .non) (rs.getD i .none) := fun {i} hi H' e => by
      have il := List.mem_range.mp hi
      obtain ⟨z, hz, hh⟩ := hRD.get (List.getElem?_eq_getElem il)
      rw [List.getD_eq_getElem?_getD, List.getD_eq_getElem?_getD, hz, List.getElem?_eq_getElem il]
      exact hh.ex e
    have rowz : ∀ {i : Nat} {x : V} {H1 : Hp}, Ex H H1 → us2[i]? = some x → Dz K p0 c0 H1 x (rs.getD i .none) := fun {i x H1} e hx => by
      obtain ⟨z, hz, hh⟩ := hRD.get hx
      rw [List.getD_eq_getElem?_getD, hz]
      exact hh.ex e
    -- whole numbers
    refine q_when (b := !(((List.range us2.length).filter fun i => !wholeB (rs.getD i .none)).isEmpty)) (et_val (ev_neNilB (K := K) (p := p0) (c := c0) (u := fun i => us2.getD i .non) (f := fun i => rs.getD i .none) (elp_lcT (K := K) (a := ra) (xs := us2) (j := 9) (vs := [9]) (ev_op (ev_var rfl) ev_c (rv_ixT (K := K) (ex_t e1 hA) (atI_vi (k := 2) rfl))) (ex_t e1 hR) few (fun i => !wholeB (rs.getD i .none)) (fun v i _ => v = us2.getD i .non) (fun _ _ _ _ _ z => z) (fun _ => rfl) (fun i x H2 e2 hx => ⟨et_noInt (K := K) (ev_var rfl) ev_c (ev_var rfl) ev_c (rowz (e1.trans e2) hx), fun _ => ep_ev (ev_var rfl) fun _ e3 => by rw [List.getD_eq_getElem?_getD, hx]; rfl⟩)) (fun i hi H' e' => at_ (List.mem_filter.mp hi).1 H' (e1.trans e')) (fun i _ => gi i))) (fun hb H2 e2 => ?_) (fun hb H2 e2 => ?_)
    · rw [filt_all wholeB PyData.none rs lr, Bool.not_eq_true'] at hb
      refine s_ret ev_c fun H3 e3 => q _ H3 ((e1.trans e2).trans e3) ?_
      rw [isF fun e _ _ => ?_]
      show (decide (rs.length = e.2) && rs.all (belowB F.length)) = false
      rw [Bool.and_eq_false_iff]
      refine .inr ?_
      cases hq : rs.all (belowB F.length) with
      | false => rfl
      | true =>
        have : rs.all wholeB = true := List.all_eq_true.mpr fun z hz => by
          have := List.all_eq_true.mp hq z hz
          cases z <;> first | rfl | cases this
        rw [this] at hb
        cases hb
    rw [filt_all wholeB PyData.none rs lr, Bool.not_eq_false'] at hb
    have e02 := e1.trans e2
    -- the titles
    have names : ∀ H1, Ex H2 H1 → EvL (tLc (iTup K (tVar 0)) (gTup K 2 (gCons (gName 12) (gCons (gName 13) gNil))) tYes (tVar 12) [12, 13]) [some (.ref a), some (.ref va), some (.ref wa), some (.ref fl), some (.ref b), none, none, none, none, none, none, none, none, none] H1 ((p.1.map (·.1)).map V.str) := fun H1' e1' H2' e2' Q' q' => by
      have e9 := e02.trans (e1'.trans e2')
      refine (elp_lcTg (K := K) (ev_var rfl) (ex_t e9 hS) (by omega) (fun _ => true) (fun v i _ => v = .str ((p.1.map (·.1)).getD i "")) (fun _ _ _ _ _ z => z) (fun j y H3 e3 hy Φ kk => ?_)) H2' (Ex.refl _) _ fun l ws H3 nl e3 hl pw => q' l H3 nl e3 ?_
      · obtain ⟨dd, hdd, c, rfl, hc⟩ := paired_at hP hy
        refine ⟨c, _, rfl, ex_t (e9.trans e3) hc, rfl, _, _, rfl, _, _, rfl, rfl, kk _ rfl et_yes fun _ => ep_ev (ev_var rfl) fun _ _ => ?_⟩
        rw [List.getD_eq_getElem?_getD, List.getElem?_map, hdd]
        rfl
      · rw [range_all] at pw
        rw [hl, paired_eqs pw]
        congr 2
        apply List.ext_getElem?
        intro j
        rw [lS]
        by_cases hj : j < p.1.length
        · rw [List.getElem?_map, List.getElem?_range hj, List.getElem?_map, List.getElem?_map, List.getElem?_eq_getElem hj]
          show some (V.str ((p.1.map _).getD j "")) = _
          rw [List.getD_eq_getElem?_getD, List.getElem?_map, List.getElem?_eq_getElem hj]
          rfl
        · rw [List.getElem?_eq_none_iff.mpr (by simp; omega), List.getElem?_eq_none_iff.mpr (by simp; omega)]
    refine q_asgL (names H2 (Ex.refl _)) fun tl H3 ntl e3 htl => ?_
    have e03 := e02.trans e3
    show tSeq _ _ _ [some (.ref a), some (.ref va), some (.ref wa), some (.ref fl), some (.ref b), some (.ref tl), none, none, none, none, none, none, none, none] H3
    have dpt : ∀ H4, Ex H3 H4 → Dp K H4 (.ref tl) (.list ((p.1.map (·.1)).map PyData.str)) := fun H4 e4 => .lst (sq_of (e4 _ _ htl)) (by
      have : ∀ ks : List Str, DpAll K H4 (ks.map V.str) (ks.map PyData.str) := fun ks => by
        induction ks with
        | nil => exact .nil
        | cons k ks ih => exact .cons (.str _) ih
      exact this _)
    have gt : Gd 1 404 (.list ((p.1.map (·.1)).map PyData.str)) := gd_lst (k := 0) (W := 100) (L := 4) (fun d hd => by
      obtain ⟨z, hz, rfl⟩ := List.mem_map.mp hd
      obtain ⟨e, he, rfl⟩ := List.mem_map.mp hz
      have nm1 := tw.ok.1.nm e he
      exact gd_str (name_cps nm1) (Nat.le_trans nm1.l4 (by decide))) (by rw [List.length_map, List.length_map]; exact s4)
    have notin : Ev (tOp (rNotInD K) (tOp (rIxT K) (tVar 4) (tC (.int 1))) (tVar 5)) [some (.ref a), some (.ref va), some (.ref wa), some (.ref fl), some (.ref b), some (.ref tl), none, none, none, none, none, none, none, none] H3 (.bl (!p.1.any fun e => isS e.1 nm)) := fun H4 e4 Q4 q4 => do_op (ev_op (ev_var rfl) ev_c (rv_ixT (K := K) (ex_t (e03.trans e4) hA) (atI_vi (k := 1) rfl)) H4 (Ex.refl _) _ fun H5 e5 => do_ev (ev_var rfl) fun H6 e6 => ⟨nm, _, (h1.ex (e03.trans (e4.trans (e5.trans e6)))).dp, dpt H6 (e4.trans (e5.trans e6)), gn.shaped (by decide), gt.shaped (by decide), by
      have : (((p.1.map (·.1)).map PyData.str).any fun z => PyData.eqv z nm) = p.1.any fun e => isS e.1 nm := by
        rw [List.any_map, List.any_map]
        congr 1
        funext e
        exact isS_eqv _ _
      rw [this]
      exact q4 H6 (e5.trans e6)⟩)
    by_cases ex : ∃ e ∈ p.1, isS e.1 nm = true
    case neg =>
      have ex2 : (p.1.any fun e => isS e.1 nm) = false := by
        rw [List.any_eq_false]
        intro e he hh
        exact ex ⟨e, he, hh⟩
      refine q_when (b := true) (et_is (et_or (a := true) (b := false) (et_is (et_val notin) (by rw [ex2]; rfl)) (fun z => by cases z)) rfl) (fun _ H4 e4 => s_ret ev_c fun H5 e5 => q _ H5 (e03.trans (e4.trans e5)) ?_) (fun hb => by cases hb)
      rw [isF fun e he hh => absurd ⟨e, he, hh⟩ ex]
    obtain ⟨⟨z, k⟩, mem, hz⟩ := ex
    have en : nm = .str z := by
      cases nm with
      | str s => rw [show s = z from of_decide_eq_true hz]
      | _ => cases hz
    subst en
    cases h1 with
    | str =>
    have ex2 : (p.1.any fun e => isS e.1 (.str z)) = true := List.any_eq_true.mpr ⟨(z, k), mem, hz⟩
    have only : ∀ e ∈ p.1, isS e.1 (.str z) = true → e = (z, k) := fun e he hh => by
      obtain ⟨i, hi⟩ := List.mem_iff_getElem?.mp he
      obtain ⟨j, hj⟩ := List.mem_iff_getElem?.mp mem
      exact (sig_one tw.ok hi hj (of_decide_eq_true hh).symm).2
    obtain ⟨i, hi⟩ := List.mem_iff_getElem?.mp mem
    have il := (List.getElem?_eq_some_iff.mp hi).1
    have memn : z ∈ p.1.map (·.1) := List.mem_map.mpr ⟨(z, k), mem, rfl⟩
    have idx : (p.1.map (·.1)).idxOf z = i := by
      have g1 : (p.1.map (·.1))[i]? = some z := by rw [List.getElem?_map, hi]; rfl
      have g2 := List.getElem_idxOf (List.idxOf_lt_length_iff.mpr memn)
      obtain ⟨g3, g4⟩ := List.getElem?_eq_some_iff.mp g1
      exact (List.getElem_inj tw.ok.1.nd).mp (g2.trans g4.symm)
    have k2 : k ≤ 2 := tw.ok.1.pl _ mem
    obtain ⟨dv, hdv, db, rfl, hdb⟩ : ∃ dv, us[i]? = some dv ∧ Deed K H dv (z, k) := by
      have hu : us[i]? = some us[i] := List.getElem?_eq_getElem (by omega)
      obtain ⟨dd, hdd, hh⟩ := paired_at hP hu
      rw [hi] at hdd
      cases hdd
      exact ⟨_, hu, hh⟩
    have ix : ∀ {σ : L2.St} {H4 : Hp}, Ex H3 H4 → σ[5]? = some (some (.ref tl)) → σ[4]? = some (some (.ref b)) → Ev (tBM K "list" (rIndex K) (tVar 5) (tCons (tOp (rIxT K) (tVar 4) (tC (.int 1))) tNil)) σ H4 (vi i) := fun {σ H4} e s5 s4' => ev_is (ev_sindexV (K := K) (ev_var s5) (e _ _ htl) (ev_op (ev_var s4') ev_c (rv_ixT (K := K) (ex_t (e03.trans e) hA) (atI_vi (k := 1) rfl))) memn) (by rw [idx])
    refine q_when (b := !decide (us2.length = k)) (et_is (et_or (a := false) (et_is (et_val notin) (by rw [ex2]; rfl)) (fun _ => et_test (len_ne (K := K) (j := k) (ev_op (ev_var rfl) ev_c (rv_ixT (K := K) (ex_t e03 hA) (atI_vi (k := 2) rfl))) (ex_t e03 hR) (ev_op (ev_op (ev_var rfl) (ix (Ex.refl _) rfl rfl) (rv_ixT (K := K) (ex_t e03 hS) (atI_vi hdv))) ev_c (rv_ixT (K := K) (ex_t e03 hdb) (atI_vi (k := 1) rfl)))))) (by rw [Bool.false_or])) (fun hb4 H4 e4 => ?_) (fun hb4 H4 e4 => ?_)
    · refine s_ret ev_c fun H5 e5 => q _ H5 (e03.trans (e4.trans e5)) ?_
      rw [isF fun e he hh => ?_]
      rw [only e he hh]
      show (decide (rs.length = k) && rs.all (belowB F.length)) = false
      have : rs.length ≠ k := fun y => by
        rw [decide_eq_true (by rw [lr]; exact y)] at hb4
        cases hb4
      rw [decide_eq_false this, Bool.false_and]
    have lrk : us2.length = k := by simpa using hb4
    have e04 := e03.trans e4
    show tSeq _ _ _ [some (.ref a), some (.ref va), some (.ref wa), some (.ref fl), some (.ref b), some (.ref tl), none, none, none, none, none, none, none, none] H4
    -- numbers called
    refine q_when (b := !(((List.range us2.length).filter fun i => !belowB F.length (rs.getD i .none)).isEmpty)) (et_val (ev_neNilB (K := K) (p := p0) (c := c0) (u := fun i => us2.getD i .non) (f := fun i => rs.getD i .none) (elp_lcT (K := K) (a := ra) (xs := us2) (j := 9) (vs := [9]) (ev_op (ev_var rfl) ev_c (rv_ixT (K := K) (ex_t e04 hA) (atI_vi (k := 2) rfl))) (ex_t e04 hR) few (fun i => !belowB F.length (rs.getD i .none)) (fun v i _ => v = us2.getD i .non) (fun _ _ _ _ _ z => z) (fun _ => rfl) (fun i x H5 e5 hx => ⟨?_, fun _ => ep_ev (ev_var rfl) fun _ e3 => by rw [List.getD_eq_getElem?_getD, hx]; rfl⟩)) (fun i hi H' e' => at_ (List.mem_filter.mp hi).1 H' (e04.trans e')) (fun i _ => gi i))) (fun hb5 H5 e5 => ?_) (fun hb5 H5 e5 => ?_)
    · obtain ⟨z9, hz9, hh⟩ := hRD.get hx
      have wz := List.all_eq_true.mp hb z9 (List.mem_of_getElem? hz9)
      rw [List.getD_eq_getElem?_getD, hz9]
      cases hh with
      | int j =>
        refine et_is (et_or (a := decide (j < 0)) (b := decide ((F.length : Int) ≤ j)) (et_test (ev_is (ev_op (ev_var rfl) ev_c rv_I0) rfl)) (fun _ => et_test (ev_is (ev_op (ev_var rfl) (ev_len (K := K) (ev_var rfl) (sq_of ((e04.trans e5) _ _ hf))) rv_I0) (by
          show V.bl (decide (j ≥ (((F.map vi).length : Nat) : Int))) = _
          rw [List.length_map])))) ?_
        show (decide (j < 0) || decide ((F.length : Int) ≤ j)) = !(decide (0 ≤ j) && decide (j < (F.length : Int)))
        by_cases a1 : j < 0
        · rw [decide_eq_true a1, decide_eq_false (show ¬ 0 ≤ j by omega)]; rfl
        · rw [decide_eq_false a1, decide_eq_true (show 0 ≤ j by omega)]
          by_cases a2 : j < (F.length : Int)
          · rw [decide_eq_true a2, decide_eq_false (show ¬ (F.length : Int) ≤ j by omega)]; rfl
          · rw [decide_eq_false a2, decide_eq_true (show (F.length : Int) ≤ j by omega)]; rfl
      | non => cases wz
      | bl => cases wz
      | str => cases wz
      | lst => cases wz
      | tup => cases wz
    · rw [filt_all (belowB F.length) PyData.none rs lr, Bool.not_eq_true'] at hb5
      refine s_ret ev_c fun H6 e6 => q _ H6 (e04.trans (e5.trans e6)) ?_
      rw [isF fun e he hh => ?_]
      show (decide (rs.length = e.2) && rs.all (belowB F.length)) = false
      rw [hb5, Bool.and_false]
    rw [filt_all (belowB F.length) PyData.none rs lr, Bool.not_eq_false'] at hb5
    have e05 := e04.trans e5
    have rowt : rowB k F.length (.tuple rs) = true := by
      show (decide (rs.length = k) && rs.all (belowB F.length)) = true
      rw [hb5, decide_eq_true (by rw [← lr]; exact lrk)]
      rfl
    obtain ⟨eus, low⟩ := below_all hRD hb5
    have val : clashB p p2 F (.tuple [a0, .str z, .tuple rs]) = bad (sysOf p p2) F (z, rs.map natOf) := by
      show (isS "clash" a0 && p.1.any fun d => isS d.1 (.str z) && (rowB d.2 F.length (.tuple rs) && bad (sysOf p p2) F (d.1, rs.map natOf))) = _
      rw [hd, Bool.true_and]
      cases hv2 : bad (sysOf p p2) F (z, rs.map natOf) with
      | true => exact List.any_eq_true.mpr ⟨(z, k), mem, by rw [show isS (z, k).1 (.str z) = true from decide_eq_true rfl, Bool.true_and, rowt, Bool.true_and]; exact hv2⟩
      | false =>
        rw [List.any_eq_false]
        intro e he hh
        rw [Bool.and_eq_true] at hh
        have := only e he hh.1
        subst this
        rw [hv2, Bool.and_false] at hh
        cases hh.2
    rw [val] at q
    generalize hr9 : rs.map natOf = r at *
    have lrr : r.length = k := by rw [← hr9, List.length_map, ← lr]; exact lrk
    subst eus
    have leF := hF.le
    show tSeq _ _ _ [some (.ref a), some (.ref va), some (.ref wa), some (.ref fl), some (.ref b), some (.ref tl), none, none, none, none, none, none, none, none] H5
    refine q_asg (v := vi i) (ix (e4.trans e5) rfl rfl) fun H6 e6 => ?_
    refine do_setG (do_tup (do_cons (do_ev ev_c fun H7 e7 => do_cons (do_ev ev_c fun H9 e9 => do_nil ⟨by show 2 ≤ sizeLine; decide, fun tp ntp => ?_⟩))))
    refine ⟨tp, _, rfl, st_of upd_same, rfl, _, _, rfl, _, _, rfl, rfl, ?_⟩
    have e08 : Ex H (upd H9 tp (.tup [.int 0, .int 0])) := (e05.trans ((e6.trans e7).trans e9)).trans (Ex.new ntp)
    generalize upd H9 tp (.tup [.int 0, .int 0]) = H8 at *
    show tSeq _ _ _ [some (.ref a), some (.ref va), some (.ref wa), some (.ref fl), some (.ref b), some (.ref tl), some (vi i), some (vi 0), some (vi 0), none, none, none, none, none] H8
    have rn : ∀ x ∈ r, x < p.2.1 := fun x hx => Nat.lt_of_lt_of_le (low x hx) leF
    have rF : ∀ x ∈ r.map (M20.g F), x < p.2.1 := fun x hx => by
      obtain ⟨z, hz, rfl⟩ := List.mem_map.mp hx
      exact hF.low _ (M25.g_mem (low z hz))
    refine q_forT (K := K) (ev_op (ev_var rfl) ev_c (rv_ixT (K := K) (ex_t e08 hA) (atI_vi (k := 2) rfl))) (ex_t e08 hR) (fun j σ H' => Ex H H' ∧ ∃ y, σ = [some (.ref a), some (.ref va), some (.ref wa), some (.ref fl), some (.ref b), some (.ref tl), some (vi i), some (vi (plc p.2.1 (r.take j))), some (vi (plc p.2.1 ((r.map (M20.g F)).take j))), y, none, none, none, none]) (fun H9 e9 => ⟨e08.trans e9, none, rfl⟩) (fun j σ' H' _ ⟨e, _⟩ => ex_t e hR) (fun j y σ' H9 hy9 ⟨e9, y8, hσ⟩ => ?_) (fun σ' H9 ⟨e9, y8, hσ⟩ => ?_)
    · subst hσ
      rw [List.getElem?_map] at hy9
      cases hk : r[j]? with
      | none => rw [hk] at hy9; cases hy9
      | some kk =>
      rw [hk] at hy9
      cases Option.some.inj hy9
      have t1 : r.take (j + 1) = r.take j ++ [kk] := by rw [List.take_add_one, hk]; rfl
      have t2 : (r.map (M20.g F)).take (j + 1) = (r.map (M20.g F)).take j ++ [M20.g F kk] := by rw [List.take_add_one, List.getElem?_map, hk]; rfl
      have lk := low kk (List.mem_of_getElem? hk)
      show tSeq _ _ _ [some (.ref a), some (.ref va), some (.ref wa), some (.ref fl), some (.ref b), some (.ref tl), some (vi i), some (vi (plc p.2.1 (r.take j))), some (vi (plc p.2.1 ((r.map (M20.g F)).take j))), some (vi kk), none, none, none, none] H9
      have sm1 : plc p.2.1 (r.take j) ≤ 1000 := by
        have a := plc_low (n := p.2.1) (ns := r.take j) (fun k h => rn k (List.mem_of_mem_take h)) (by rw [List.length_take]; omega)
        have b := pow_36 (p := (r.take j).length) n6 (by rw [List.length_take]; omega)
        omega
      have sm2 : plc p.2.1 ((r.map (M20.g F)).take j) ≤ 1000 := by
        have a := plc_low (n := p.2.1) (ns := (r.map (M20.g F)).take j) (fun k h => rF k (List.mem_of_mem_take h)) (by rw [List.length_take, List.length_map]; omega)
        have b := pow_36 (p := ((r.map (M20.g F)).take j).length) n6 (by rw [List.length_take, List.length_map]; omega)
        omega
      refine q_asg (v := vi (plc p.2.1 (r.take (j + 1)))) (ev_is (ev_addM (ev_mulM (ev_var rfl) (ev_op (ev_var rfl) ev_c (rv_ixT (K := K) (ex_t e9 hva) (atI_vi (k := 0) rfl))) (by omega)) (ev_var rfl)) (by rw [t1, plc_snoc])) fun H10 e10 => ?_
      refine s_asg (v := vi (plc p.2.1 ((r.map (M20.g F)).take (j + 1)))) (ev_is (ev_addM (ev_mulM (ev_var rfl) (ev_op (ev_var rfl) ev_c (rv_ixT (K := K) (ex_t (e9.trans e10) hva) (atI_vi (k := 0) rfl))) (by omega)) (ev_op (ev_var rfl) (ev_var rfl) (rv_ixL (K := K) (sq_of ((e9.trans e10) _ _ hf)) (atI_vi (k := kk) (by rw [List.getElem?_map, g_eq lk]; rfl))))) (by rw [t2, plc_snoc])) fun H11 e11 => ⟨(e9.trans e10).trans e11, _, rfl⟩
    subst hσ
    have tk1 : r.take (r.map vi).length = r := by rw [List.length_map]; exact List.take_length
    have tk2 : (r.map (M20.g F)).take (r.map vi).length = r.map (M20.g F) := List.take_of_length_le (by rw [List.length_map, List.length_map]; exact Nat.le_refl _)
    rw [tk1, tk2]
    obtain ⟨i1, tb1, tab1⟩ := tbOf_sig tw.ok tw.ok rfl hi
    obtain ⟨i2, tb2, tab2⟩ := tbOf_sig tw.ok tw.ok2 tw.es hi
    rw [tw.en] at tab2
    replace tab1 : Tab p.2.1 k p.2.2[i] := tab1
    replace tab2 : Tab p.2.1 k p2.2.2[i] := tab2
    obtain ⟨tv1, htv1, na1⟩ : ∃ tv, vts[i]? = some tv ∧ Nats K H tv p.2.2[i] := by
      have lv : i < vts.length := by rw [paired_len hvp]; exact i1
      have hu : vts[i]? = some vts[i] := List.getElem?_eq_getElem lv
      obtain ⟨dd, hdd, hh⟩ := paired_at hvp hu
      rw [List.getElem?_eq_getElem i1] at hdd
      cases hdd
      exact ⟨_, hu, hh⟩
    obtain ⟨tv2, htv2, na2⟩ : ∃ tv, wts[i]? = some tv ∧ Nats K H tv p2.2.2[i] := by
      have lv : i < wts.length := by rw [paired_len hwp]; exact i2
      have hu : wts[i]? = some wts[i] := List.getElem?_eq_getElem lv
      obtain ⟨dd, hdd, hh⟩ := paired_at hwp hu
      rw [List.getElem?_eq_getElem i2] at hdd
      cases hdd
      exact ⟨_, hu, hh⟩
    obtain ⟨ta1, rfl, sta1⟩ := id na1
    obtain ⟨ta2, rfl, sta2⟩ := id na2
    have pl1 : plc p.2.1 r < p.2.2[i].length := by
      rw [tab1.len, ← lrr]
      exact plc_low rn (by omega)
    have pl2 : plc p.2.1 (r.map (M20.g F)) < p2.2.2[i].length := by
      have := plc_low rF (by rw [List.length_map]; omega)
      rw [List.length_map, lrr] at this
      rw [tab2.len]
      exact this
    refine do_par (do_cons (do_ev (ev_ixN (K := K) (ev_op (ev_op (ev_var rfl) ev_c (rv_ixT (K := K) (ex_t e9 hva) (atI_vi (k := 1) rfl))) (ev_var rfl) (rv_ixT (K := K) (ex_t e9 hvb) (atI_vi htv1))) (ev_var rfl) (ex_t e9 sta1) pl1) fun H10 e10 => do_cons (do_ev (ev_ixN (K := K) (ev_op (ev_op (ev_var rfl) ev_c (rv_ixT (K := K) (ex_t (e9.trans e10) hwa) (atI_vi (k := 1) rfl))) (ev_var rfl) (rv_ixT (K := K) (ex_t (e9.trans e10) hwb) (atI_vi htv2))) (ev_var rfl) (ex_t (e9.trans e10) sta2) pl2) fun H11 e11 => do_nil ⟨_, _, rfl, ?_⟩)))
    have e011 := (e9.trans e10).trans e11
    have val2 : bad (sysOf p p2) F (z, r) = clsh p.2.1 p.2.2[i] p2.2.2[i] F r := by
      show clsh p.2.1 (tbOf p.1 p.2.2 z) (tbOf p.1 p2.2.2 z) F r = _
      rw [show tbOf p.1 p.2.2 z = p.2.2[i] from tb1, show tbOf p.1 p2.2.2 z = p2.2.2[i] from tb2]
    rw [val2] at q
    generalize hg1 : M20.g p.2.2[i] (plc p.2.1 r) = v1 at *
    generalize hg2 : M20.g p2.2.2[i] (plc p.2.1 (r.map (M20.g F))) = v2 at *
    show tSeq _ _ _ [some (.ref a), some (.ref va), some (.ref wa), some (.ref fl), some (.ref b), some (.ref tl), some (vi i), some (vi (plc p.2.1 r)), some (vi (plc p.2.1 (r.map (M20.g F)))), y8, some (vi v1), some (vi v2), none, none] H11
    refine q_when (b := decide (v1 < F.length)) (et_test (ev_ltM (ev_var rfl) (ev_is (ev_len (K := K) (ev_var rfl) (sq_of (e011 _ _ hf))) (by rw [List.length_map])))) (fun hb6 H12 e12 => ?_) (fun hb6 H12 e12 => ?_)
    · have lt := of_decide_eq_true hb6
      refine s_ret (ev_op (ev_op (ev_var rfl) (ev_var rfl) (rv_ixL (K := K) (sq_of ((e011.trans e12) _ _ hf)) (atI_vi (k := v1) (by rw [List.getElem?_map, g_eq lt]; rfl)))) (ev_var rfl) (rv_ne rfl)) fun H13 e13 => q _ H13 ((e011.trans e12).trans e13) ?_
      unfold clsh
      rw [hg1, if_pos lt, hg2, vi_eq]
    · have lt := of_decide_eq_false hb6
      refine s_ret (ev_op (ev_var rfl) (ev_var rfl) (rv_isL (K := K) (sq_of ((e011.trans e12) _ _ hf)) rfl (flat_vi F))) fun H13 e13 => q _ H13 ((e011.trans e12).trans e13) ?_
      rw [inV_vi]
      unfold clsh
      rw [hg1, if_neg lt, hg2]
end
end K22
end
section
namespace K22
open PySem PySem.Spec PyProof.Rows L2 Evl RZ Dw M20 M25 CL LK LD
theorem eqv_unit (ds : List PyData) : PyData.eqv (.tuple ds) (.tuple []) = ds.isEmpty := by
  cases ds <;> simp [PyData.eqv, PyData.eqvAll]
/-- no case and no right clash -/
theorem odd_leaf {x y : MArg} {F q : List Nat} {t : PyData} (h1 : caseB (x.2.1 - F.length) t = false) (h2 : clashB x y F t = false) : oddT x y (x.2.1 - F.length) F q t = some q := by
  have : ov x y (q, F, t) = some q := by rw [ov_leaf h1, if_neg (by rw [h2]; decide)]
  exact this
theorem case_no {left : Nat} {t : PyData} (h : isS "case" (head0 t) = false) : caseB left t = false := by
  cases hc : caseB left t with
  | false => rfl
  | true =>
    obtain ⟨a, ks, rfl, _, _, ha⟩ := case_shape hc
    have : isS "case" a = false := h
    rw [ha] at this
    cases this
theorem clash_no {x y : MArg} {F : List Nat} {t : PyData} (h : isS "clash" (head0 t) = false) : clashB x y F t = false := by
  match t, h with
  | .tuple [a, nm, r], h =>
    have h2 : isS "clash" a = false := h
    show (isS "clash" a && _) = false
    rw [h2, Bool.false_and]
  | .tuple [], _ => rfl
  | .tuple [_], _ => rfl
  | .tuple [_, _], _ => rfl
  | .tuple (_ :: _ :: _ :: _ :: _), _ => rfl
  | .none, _ => rfl
  | .bool _, _ => rfl
  | .int _, _ => rfl
  | .str _, _ => rfl
  | .list _, _ => rfl
  | .dict _, _ => rfl
theorem find_at3 {α β : Type} {f : α → Option β} {l : List α} {i : Nat} {a : α} {b : β} (h : l[i]? = some a) (hf : f a = some b) (no : ∀ (j : Nat) (c : α), j < i → l[j]? = some c → f c = none) : l.findSome? f = some b := by
  induction l generalizing i with
  | nil => cases h
  | cons x l ih =>
    cases i with
    | zero =>
      cases Option.some.inj h
      rw [List.findSome?_cons, hf]
    | succ i =>
      rw [List.findSome?_cons, no 0 x (Nat.zero_lt_succ _) rfl]
      exact ih (i := i) h fun j c hj hc => no (j + 1) c (Nat.succ_lt_succ hj) hc
theorem find_none {α β : Type} {f : α → Option β} {l : List α} (no : ∀ (j : Nat) (c : α), l[j]? = some c → f c = none) : l.findSome? f = none := by
  rw [List.findSome?_eq_none_iff]
  intro a ha
  obtain ⟨i, hi⟩ := List.mem_iff_getElem?.mp ha
  exact no i a hi
section
variable {P : Program} {w : World} {K : PySem.W.Frag} {mg : Str → Option Value} {base : Heap} {σ : L2.St} {H : Hp} {ta tb : TE}
theorem el_catVL {a : Addr} {xs ys : List V} (ha : Ev ta σ H (.ref a)) (hA : H a = some (.lst xs)) (hb : EvL tb σ H ys) (n : xs.length + ys.length ≤ 100000) : EvL (tOp rCat ta tb) σ H (xs ++ ys) := fun H1 e1 Q q => ha H1 e1 _ fun H2 e2 => hb H2 (e1.trans e2) _ fun b H3 nb e3 hB => ⟨a, b, xs, ys, rfl, rfl, ((e1.trans e2).trans e3) _ _ hA, hB, sz_of n, fun r nr => q r _ (fresh_back (e2.trans e3) nr) ((e2.trans e3).trans (Ex.new nr)) upd_same⟩
def sp_path (K : PySem.W.Frag) (d : Nat) : Sp := spX (fun (z : (Addr × Addr) × MArg × MArg × List Nat × List Nat × PyData) vs H => (∃ u v w l y x, vs = [u, v, w, .ref l, y, x] ∧ MA K H u v z.2.1 ∧ Mdl K H w z.2.2.1.2.1 z.2.2.1.2.2 ∧ H l = some (.lst (z.2.2.2.1.map vi)) ∧ Dz K z.1.1 z.1.2 H y z.2.2.2.2.2 ∧ Nats K H x z.2.2.2.2.1) ∧ Two z.2.1 z.2.2.1 ∧ Bg z.2.1.2.1 z.2.2.2.1.length z.2.2.2.1 ∧ Gd 50 30000 z.2.2.2.2.2 ∧ z.2.2.2.1.length + d = z.2.1.2.1 + 1 ∧ z.2.2.2.2.1.length = z.2.2.2.1.length) (fun z v H => OdV K H v (oddT z.2.1 z.2.2.1 (z.2.1.2.1 - z.2.2.2.1.length) z.2.2.2.1 z.2.2.2.2.1 z.2.2.2.2.2))
theorem c_law_path (T : Txt mg) (D : Df K mg "_law_path" s__law_path ["_law_signature_here", "_law_one", "_law_other", "_law_images", "_law_tree_here", "_law_path_here"]) (c_law_clash : Cl P w K mg base 1 "_law_is_clash" (sp_law_clash K)) : ∀ d : Nat, Cl P w K mg base (d + 2) "_law_path" (sp_path K d)
  | 0 => cl_of (k := 1) D sc__law_path (fun vs H Q E h => by
      obtain ⟨z, ⟨⟨u, v, w, l, y, x, rfl, _⟩, _⟩, _⟩ := h
      rfl) (fun f cdv A outer s H vs Q E hr h => by
      obtain ⟨z, ⟨_, tw, hF, _, e, _⟩, _⟩ := h
      have := hF.le
      omega)
  | d + 1 => by
    have c_rec := c_law_path T D c_law_clash d
    refine cl_of (k := d + 2) D sc__law_path (fun vs H Q E h => ?_) (fun f cdv A outer s H vs Q E hr h => ?_)
    · obtain ⟨z, ⟨⟨u, v, w, l, y, x, rfl, _⟩, _⟩, _⟩ := h
      rfl
    · obtain ⟨⟨⟨p0, c0⟩, p, p2, F, pq, t⟩, ⟨⟨u, v, w, fl, y, x, rfl, hm, hw, hf, hy, hx⟩, tw, hF, g, ld, lq⟩, q⟩ := h
      have c_is_clash := c_law_clash
      refine ⟨_, (pss_cons (ps_if (PW.pt (pw_or (pt_not (pt_val (pe_callB call_isi (by rfl) T.z_isinstance (by decide +kernel) (pa_cons (pv 4) (pa_cons (pe_ty "tuple" (by rfl) T.z_tuple (by decide +kernel)) pa_nil))))) (pw_or (pt_cmpR (op_eqD hr.units) (pv 4) (pe_tup pa_nil) (nomark _)) (pw_or1 (pt_not (pt_val (pe_callB call_isi (by rfl) T.z_isinstance (by decide +kernel) (pa_cons (pe_ix ix_tup (pv 4) pe_int (fun _ _ => rfl)) (pa_cons (pe_ty "str" (by rfl) T.z_str (by decide +kernel)) pa_nil)))))))))
        (pss_one (ps_ret (pv 5)))
        pss_nil)
      (pss_cons (ps_if (PW.pt (pw_and (pt_cmpR op_eq (pe_ix ix_tup (pv 4) pe_int (fun _ _ => rfl)) pe_str (nomark _)) (pw_and1 (pt_val (pe_cl c_is_clash hr (by first | decide | omega) (by rfl) (pa_cons (pv 0) (pa_cons (pv 1) (pa_cons (pv 2) (pa_cons (pv 3) (pa_cons (pv 4) pa_nil))))))))))
        (pss_one (ps_ret pe_non))
        pss_nil)
      (pss_cons (ps_setLc (i := 6) (own := [("_law_number", 9)]) (g := (gName 9)) (by rfl) sc__law_path.nd rfl rfl (sw_true rfl rfl rfl (by decide +kernel)) (pi_range1 (by rfl) T.z_range (pa_cons (pe_ix ix_tup (pv 1) pe_int (fun _ _ => rfl)) pa_nil)) (blkOk_by (own := [("_law_number", 9)]) (N := ["_law_signature_here", "_law_one", "_law_other", "_law_images", "_law_tree_here", "_law_path_here", "_law_free", "_law_k", "_law_found_here", "_law_number"]) (sc := (defScope s__law_path)) (by decide +kernel)) (fun _ _ _ _ _ => (pg_name (i := 9) sc__law_path.nd rfl (.inl rfl))) (fun _ _ _ _ _ => (pts_one (pt_cmpR (op_notIn_seqK K) (pv 9) (pv 3) (by rfl)))) (fun _ _ _ _ _ => (pv 9)))
      (pss_cons (ps_if (PW.pt (pw_or (pt_cmpR op_ne (pe_ix ix_tup (pv 4) pe_int (fun _ _ => rfl)) pe_str (nomark _)) (pw_or (pt_cmpR op_ne (pe_callB call_len_seq (by rfl) T.z_len PySem.boot_len (pa_cons (pv 4) pa_nil)) pe_int (nomark _)) (pw_or (pt_not (pt_val (pe_callB call_isi (by rfl) T.z_isinstance (by decide +kernel) (pa_cons (pe_ix ix_tup (pv 4) pe_int (fun _ _ => rfl)) (pa_cons (pe_ty "list" (by rfl) T.z_list (by decide +kernel)) pa_nil))))) (pw_or (pt_cmpR op_ne (pe_callB call_len_seq (by rfl) T.z_len PySem.boot_len (pa_cons (pe_ix ix_tup (pv 4) pe_int (fun _ _ => rfl)) pa_nil)) (pe_callB call_len_seq (by rfl) T.z_len PySem.boot_len (pa_cons (pv 6) pa_nil)) (nomark _)) (pw_or1 (pt_cmpR (op_eqD hr.units) (pv 6) (pe_lst pa_nil) (nomark _))))))))
        (pss_one (ps_ret (pv 5)))
        pss_nil)
      (pss_cons (ps_for PassesOwn.never (by rfl) (pi_range1 (by rfl) T.z_range (pa_cons (pe_callB call_len_seq (by rfl) T.z_len PySem.boot_len (pa_cons (pv 6) pa_nil)) pa_nil)) (pg_name (i := 7) sc__law_path.nd rfl (.inl rfl))
        (pss_cons (ps_set (i := 8) sc__law_path.nd rfl (.inl rfl) (pe_cl c_rec hr (by first | decide | omega) (by rfl) (pa_cons (pv 0) (pa_cons (pv 1) (pa_cons (pv 2) (pa_cons (pe_op op_cat (pv 3) (pe_lst (pa_cons (pe_ix ix_list (pv 6) (pv 7) (fun _ _ => rfl)) pa_nil))) (pa_cons (pe_ix ix_list (pe_ix ix_tup (pv 4) pe_int (fun _ _ => rfl)) (pv 7) (fun _ _ => rfl)) (pa_cons (pe_op op_catA (pv 5) (pe_tup (pa_cons (pv 7) pa_nil))) pa_nil))))))))
        (pss_one (ps_if (pt_cmpR op_notN (pv 8) pe_non (nomark _))
          (pss_one (ps_ret (pv 8)))
          pss_nil))))
      (pss_one (ps_ret pe_non))))))), ?_⟩
      replace hm : MA K H u v p := hm
      replace hw : Mdl K H w p2.2.1 p2.2.2 := hw
      replace hf : H fl = some (.lst (F.map vi)) := hf
      replace hy : Dz K p0 c0 H y t := hy
      replace hx : Nats K H x pq := hx
      replace tw : Two p p2 := tw
      replace hF : Bg p.2.1 F.length F := hF
      replace g : Gd 50 30000 t := g
      replace ld : F.length + (d + 1) = p.2.1 + 1 := ld
      replace lq : pq.length = F.length := lq
      replace q : ∀ r H', Ex H H' → OdV K H' r (oddT p p2 (p.2.1 - F.length) F pq t) → Q r H' := q
      obtain ⟨va, vt, rfl, hva, hvt⟩ := id hm.2
      obtain ⟨xa, rfl, hxa⟩ := id hx
      have n6 := tw.ok.2.n6
      have leF := hF.le
      -- no word at the head
      refine q_when (b := !isTup t || (decide (lenD t = 0) || !isStr (head0 t))) (et_or (et_not (et_val (ev_isTup (K := K) (ev_var rfl) ev_c hy))) (fun ht => ?_)) (fun hb H1 e1 => ?_) (fun hb H1 e1 => ?_)
      · obtain ⟨a, xs, ds, rfl, rfl, hA, hD⟩ := tup_of hy (by simpa using ht)
        refine et_or (a := decide (lenD (.tuple ds) = 0)) (et_test (fun H2 e2 Q2 q2 => do_op (ev_var rfl H2 e2 _ fun H3 e3 => do_tup (do_nil ⟨Nat.zero_le _, fun r nr => ⟨.tuple ds, .tuple [], .tup (ex_t ((e2.trans e3).trans (Ex.new nr)) hA) (DzAll.dp (hD.ex ((e2.trans e3).trans (Ex.new nr)))), .tup (st_of upd_same) .nil, g.shaped (by decide), by decide +kernel, by
          rw [eqv_unit]
          have : ds.isEmpty = decide (lenD (.tuple ds) = 0) := by cases ds <;> simp [lenD]
          rw [this]
          exact q2 _ (e3.trans (Ex.new nr))⟩⟩)))) (fun hl => ?_)
        cases hD with
        | nil => cases hl
        | cons h0 hn => exact et_not (et_val (ev_isStr (K := K) (ev_op (ev_var rfl) ev_c (rv_ixT (K := K) hA (atI_vi (k := 0) rfl))) ev_c h0))
      · refine s_ret (ev_var rfl) fun H2 e2 => q _ H2 (e1.trans e2) ?_
        have ns : ∀ s : Str, isS s (head0 t) = false := fun s => by
          cases hh : isS s (head0 t) with
          | false => rfl
          | true =>
            have h0 := isS_str hh
            have ht : isTup t = true := by
              cases t <;> first | rfl | cases h0
            rw [ht, h0] at hb
            have : lenD t ≠ 0 := fun z => by
              cases t with
              | tuple ds =>
                cases ds with
                | nil => cases h0
                | cons _ _ => cases z
              | _ => cases ht
            rw [decide_eq_false this] at hb
            cases hb
        rw [odd_leaf (case_no (ns _)) (clash_no (ns _))]
        exact hx.ex (e1.trans e2)
      · have ht : isTup t = true := by
          cases h : isTup t with
          | true => rfl
          | false => rw [h] at hb; cases hb
        obtain ⟨a, xs, ds, rfl, rfl, hA, hD⟩ := tup_of hy ht
        replace hb : (decide (lenD (.tuple ds) = 0) || !isStr (head0 (.tuple ds))) = false := hb
        rw [Bool.or_eq_false_iff] at hb
        cases hD with
        | nil => cases hb.1
        | @cons x0 xs1 d0 ds1 h0 hn =>
        have hs : isStr d0 = true := by
          have z : (!isStr d0) = false := hb.2
          simpa using z
        obtain ⟨wd, rfl⟩ : ∃ wd, d0 = .str wd := by
          cases d0 with
          | str z => exact ⟨z, rfl⟩
          | _ => cases hs
        cases h0 with
        | str =>
        have e0 : ∀ {H2 : Hp}, Ex H H2 → ∀ {σ : L2.St}, σ[4]? = some (some (.ref a)) → Ev (tOp (rIxT K) (tVar 4) (tC (.int 0))) σ H2 (.str wd) := fun {_} e {_} h => ev_op (ev_var h) ev_c (rv_ixT (K := K) (ex_t e hA) (atI_vi (k := 0) rfl))
        refine q_when (b := decide (wd = "clash") && clashB p p2 F (.tuple (.str wd :: ds1))) (et_and (et_is (et_test (ev_op (e0 e1 rfl) ev_c (rv_eq rfl))) (decide_eq_decide.mpr ⟨fun z => V.str.inj z, fun z => by rw [z]⟩)) (fun hwd => et_val (ev_callV (v := .bl (clashB p p2 F (.tuple (.str wd :: ds1)))) ((p0, c0), p, p2, F, PyData.tuple (.str wd :: ds1)) (ea_cons (ev_var rfl) (ea_cons (ev_var rfl) (ea_cons (ev_var rfl) (ea_cons (ev_var rfl) (ea_cons (ev_var rfl) ea_nil))))) (fun H2 e2 => ⟨⟨_, _, _, _, _, rfl, hm.ex (e1.trans e2), hw.ex (e1.trans e2), (e1.trans e2) _ _ hf, hy.ex (e1.trans e2)⟩, tw, hF, g, rfl, by show decide (wd = "clash") = true; exact hwd⟩) (fun _ _ z => z)))) (fun hb2 H2 e2 => ?_) (fun hb2 H2 e2 => ?_)
        · rw [Bool.and_eq_true] at hb2
          have nc : caseB (p.2.1 - F.length) (.tuple (.str wd :: ds1)) = false := case_no (by
            show decide (wd = "case") = false
            rw [of_decide_eq_true hb2.1]
            decide +kernel)
          have v0 : oddT p p2 (p.2.1 - F.length) F pq (.tuple (.str wd :: ds1)) = none := by
            have : ov p p2 (pq, F, .tuple (.str wd :: ds1)) = none := by rw [ov_leaf nc, if_pos hb2.2]
            exact this
          rw [v0] at q
          exact s_ret ev_c fun H3 e3 => q _ H3 ((e1.trans e2).trans e3) rfl
        have e02 := e1.trans e2
        have ncl : clashB p p2 F (.tuple (.str wd :: ds1)) = false := by
          by_cases hw9 : wd = "clash"
          · rw [decide_eq_true hw9, Bool.true_and] at hb2
            exact hb2
          · exact clash_no (show decide (wd = "clash") = false from decide_eq_false hw9)
        -- who is free
        refine q_asgLP (elp_lcR (n := p.2.1) (ea_cons (ev_op (ev_var rfl) ev_c (rv_ixT (K := K) (ex_t e02 hva) (atI_vi (k := 0) rfl))) ea_nil) (by omega) (fun k => !decide (k ∈ F)) (fun v k _ => v = vi k) (fun _ _ _ _ _ z => z) (fun _ => rfl) (fun k H12 hk e12 => ⟨?_, fun _ => ep_ev (ev_var rfl) fun _ _ => rfl⟩)) fun ll ls H3 nll e3 hll pls => ?_
        · exact et_is (et_test (ev_op (ev_var rfl) (ev_var rfl) (rv_niL (K := K) (sq_of ((e02.trans e12) _ _ hf)) rfl (flat_vi F)))) (by rw [inV_vi])
        have els : ls = (free p.2.1 F).map vi := paired_eq pls
        subst els
        have e03 := e02.trans e3
        have lf := free_len hF
        show tSeq _ _ _ [some u, some (.ref va), some w, some (.ref fl), some (.ref a), some (.ref xa), some (.ref ll), none, none, none] H3
        -- no case
        refine q_when (b := !caseB (p.2.1 - F.length) (.tuple (.str wd :: ds1))) ?_ (fun hb3 H4 e4 => ?_) (fun hb3 H4 e4 => ?_)
        · by_cases hwc : wd = "case"
          case neg =>
            refine et_is (et_or (a := true) (b := false) (et_is (et_test (ev_op (e0 e03 rfl) ev_c (rv_ne rfl))) ?_) (fun z => by cases z)) ?_
            · show (!decide (V.str wd = V.str "case")) = true
              rw [decide_eq_false (fun z => hwc (V.str.inj z))]
              rfl
            · rw [case_no (t := .tuple (.str wd :: ds1)) (show decide (wd = "case") = false from decide_eq_false hwc)]
              rfl
          refine et_is (et_or (a := false) (b := !caseB (p.2.1 - F.length) (.tuple (.str wd :: ds1))) (et_is (et_test (ev_op (e0 e03 rfl) ev_c (rv_ne rfl))) ?_) (fun _ => ?_)) (by rw [Bool.false_or])
          · show (!decide (V.str wd = V.str "case")) = false
            rw [hwc, decide_eq_true rfl]
            rfl
          have lx := hn.len
          by_cases l1 : ds1.length = 1
          case neg =>
            refine et_is (et_or (a := true) (b := false) (et_is (et_test (len_ne (K := K) (j := 2) (ev_var rfl) (ex_t e03 hA) ev_c)) ?_) (fun z => by cases z)) ?_
            · rw [List.length_cons, lx, decide_eq_false (by omega)]
              rfl
            · have : caseB (p.2.1 - F.length) (.tuple (.str wd :: ds1)) = false := by
                match ds1, l1 with
                | [], _ => rfl
                | [_], h => exact absurd rfl h
                | b0 :: _ :: _, _ => cases b0 <;> rfl
              rw [this]
              rfl
          match ds1, l1, hn, lx, g with
          | [b0], _, hn, lx, g =>
          cases hn with
          | @cons z1 _ _ _ h1 hn2 =>
          cases hn2 with
          | nil =>
          refine et_is (et_or (a := false) (b := !caseB (p.2.1 - F.length) (.tuple [.str wd, b0])) (et_is (et_test (len_ne (K := K) (j := 2) (ev_var rfl) (ex_t e03 hA) ev_c)) rfl) (fun _ => ?_)) (by rw [Bool.false_or])
          have i1 : ∀ {H4 : Hp}, Ex H H4 → ∀ {σ : L2.St}, σ[4]? = some (some (.ref a)) → Ev (tOp (rIxT K) (tVar 4) (tC (.int 1))) σ H4 z1 := fun {_} e {_} h => ev_op (ev_var h) ev_c (rv_ixT (K := K) (ex_t e hA) (atI_vi (k := 1) rfl))
          by_cases il : isLst b0 = true
          case neg =>
            have il2 : isLst b0 = false := by simpa using il
            refine et_is (et_or (a := true) (b := false) (et_is (et_not (et_val (ev_isLst (K := K) (i1 e03 rfl) ev_c (h1.ex e03)))) (by rw [il2]; rfl)) (fun z => by cases z)) ?_
            have : caseB (p.2.1 - F.length) (.tuple [.str wd, b0]) = false := by cases b0 <;> first | rfl | cases il2
            rw [this]
            rfl
          cases h1 with
          | @lst la ls ks hla hp hc r =>
            have lk := r.len
            have hcb : caseB (p.2.1 - F.length) (.tuple [.str wd, .list ks]) = (decide (0 < p.2.1 - F.length) && decide (ks.length = p.2.1 - F.length)) := by
              show (isS "case" (.str wd) && (decide (0 < p.2.1 - F.length) && decide (ks.length = p.2.1 - F.length))) = _
              rw [show isS "case" (.str wd) = true from decide_eq_true hwc, Bool.true_and]
            refine et_is (et_or (a := false) (b := !caseB (p.2.1 - F.length) (.tuple [.str wd, .list ks])) (et_is (et_not (et_val (ev_isLst (K := K) (i1 e03 rfl) ev_c (Dz.ex e03 (.lst hla hp hc r))))) rfl) (fun _ => ?_)) (by rw [Bool.false_or])
            rw [hcb]
            refine et_is (et_or (a := !decide (ks.length = p.2.1 - F.length)) (b := decide (p.2.1 - F.length = 0)) (et_test (ev_is (ev_op (ev_len (K := K) (i1 e03 rfl) (sq_of (e03 _ _ hla))) (ev_len (K := K) (ev_var rfl) (sq_of hll)) (rv_ne rfl)) (by
              congr 2
              rw [lk, List.length_map, lf]
              exact decide_eq_decide.mpr ⟨fun z => by have : ((ks.length : Nat) : Int) = ((p.2.1 - F.length : Nat) : Int) := V.int.inj z; omega, fun z => by rw [z]⟩))) (fun _ => et_test (fun H4 e4 Q4 q4 => do_op (ev_var rfl H4 e4 _ fun H5 e5 => do_lst (do_nil ⟨Nat.zero_le _, fun r2 nr2 => ⟨.list ((free p.2.1 F).map fun k => .int ((k : Nat) : Int)), .list [], .lst (sq_of ((e4.trans (e5.trans (Ex.new nr2))) _ _ hll)) ?_, .lst (sq_of upd_same) .nil, ?_, by decide +kernel, ?_⟩⟩))))) ?_
            · have : ∀ ns : List Nat, DpAll K (upd H5 r2 (.lst [])) (ns.map vi) (ns.map fun k => PyData.int ((k : Nat) : Int)) := fun ns => by
                induction ns with
                | nil => exact .nil
                | cons k ks ih => exact .cons (.int _) ih
              exact this _
            · refine (gd_lst (k := 0) (W := 10) (L := 6) (fun d hd => ?_) (by rw [List.length_map, lf]; omega)).shaped (by decide)
              obtain ⟨k, hk, rfl⟩ := List.mem_map.mp hd
              have := (mem_free.mp hk).1
              exact (gd_int (n := k) (by omega)).mono (Nat.le_refl _) (by decide)
            · have : PyData.eqv (.list ((free p.2.1 F).map fun k => .int ((k : Nat) : Int))) (.list []) = decide (p.2.1 - F.length = 0) := by
                rw [← lf]
                cases free p.2.1 F <;> simp [PyData.eqv, PyData.eqvAll]
              rw [this]
              exact q4 _ (e5.trans (Ex.new nr2))
            · by_cases z1 : ks.length = p.2.1 - F.length
              · rw [decide_eq_true z1]
                by_cases z2 : p.2.1 - F.length = 0
                · rw [decide_eq_true z2, decide_eq_false (by omega)]
                  rfl
                · rw [decide_eq_false z2, decide_eq_true (by omega)]
                  rfl
              · rw [decide_eq_false z1, Bool.and_false]
                rfl
          | non => cases il
          | bl => cases il
          | int => cases il
          | str => cases il
          | tup => cases il
        · rw [Bool.not_eq_true'] at hb3
          refine s_ret (ev_var rfl) fun H5 e5 => q _ H5 (e03.trans (e4.trans e5)) ?_
          rw [odd_leaf hb3 ncl]
          exact hx.ex (e03.trans (e4.trans e5))
        · rw [Bool.not_eq_false'] at hb3
          obtain ⟨a0, ks, ee, pos, lk, _⟩ := case_shape hb3
          cases ee
          have tot : oddT p p2 (p.2.1 - F.length) F pq (.tuple [.str wd, .list ks]) = (kids3 p.2.1 pq F ks).findSome? (ov p p2) := ov_case hb3
          rw [tot] at q
          cases hn with
          | @cons z1 _ _ _ h1 hn2 =>
          cases hn2 with
          | nil =>
          cases h1 with
          | @lst la kvs _ hla nlp nlc kz =>
          have lkv := kz.len
          have e04 := e03.trans e4
          have hll4 := e4 _ _ hll
          show tSeq _ _ _ [some u, some (.ref va), some w, some (.ref fl), some (.ref a), some (.ref xa), some (.ref ll), none, none, none] H4
          refine q_forR1 (n := ((ks.length : Nat) : Int)) (ea_cons (ev_is (ev_len (K := K) (ev_var rfl) (sq_of hll4)) (by rw [List.length_map, lf, lk])) ea_nil) ⟨by omega, by omega⟩ (fun i σ H' => Ex H4 H' ∧ (∀ j c, j < i → (kids3 p.2.1 pq F ks)[j]? = some c → ov p p2 c = none) ∧ ∃ y7 y8, σ = [some u, some (.ref va), some w, some (.ref fl), some (.ref a), some (.ref xa), some (.ref ll), y7, y8, none]) (fun H5 e5 => ⟨e5, fun j c h => absurd h (Nat.not_lt_zero _), none, none, rfl⟩) (fun i σ' H5 hi hP => ?_) (fun σ' H5 hP => ?_)
          · obtain ⟨e5, no, y7, y8, hσ⟩ := hP
            subst hσ
            have ik : i < ks.length := by omega
            have ifr : i < (free p.2.1 F).length := by omega
            have e05 := e04.trans e5
            obtain ⟨mf1, mf2⟩ := mem_free.mp (List.getElem_mem ifr)
            have gf : (free p.2.1 F).getD i 0 = (free p.2.1 F)[i] := by rw [List.getD_eq_getElem?_getD, List.getElem?_eq_getElem ifr]; rfl
            have kv : i < kvs.length := by omega
            have dk : Dz K p0 c0 H kvs[i] (ks.getD i .none) := by
              obtain ⟨e0', he0, hz⟩ := kz.get (List.getElem?_eq_getElem kv)
              rw [List.getD_eq_getElem?_getD, he0]
              exact hz
            have gk : Gd 50 30000 (ks.getD i .none) := by
              rw [List.getD_eq_getElem?_getD, List.getElem?_eq_getElem ik]
              exact gd_memL (gd_mem g (List.mem_cons_of_mem _ (List.mem_singleton.mpr rfl))) (List.getElem_mem ik)
            show tSeq _ _ _ [some u, some (.ref va), some w, some (.ref fl), some (.ref a), some (.ref xa), some (.ref ll), some (vi i), y8, none] H5
            refine do_set (do_cons (do_ev (ev_var rfl) fun Ha ea => do_cons (do_ev (ev_var rfl) fun Hb eb => do_cons (do_ev (ev_var rfl) fun Hc ec => do_cons (el_catVL (xs := F.map vi) (ys := [vi (free p.2.1 F)[i]]) (ev_var rfl) ((e05.trans ((ea.trans eb).trans ec)) _ _ hf) (el_lst (vs := [vi (free p.2.1 F)[i]]) (ea_cons (ev_op (ev_var rfl) (ev_var rfl) (rv_ixL (K := K) (sq_of (((e5.trans ea).trans (eb.trans ec)) _ _ hll4)) (atI_vi (k := i) (by rw [List.getElem?_map, List.getElem?_eq_getElem ifr]; rfl)))) ea_nil) (by show 1 ≤ 100000; decide)) (by rw [List.length_map]; show F.length + 1 ≤ 100000; omega) Hc (Ex.refl _) _ fun l2 Hd nl2 ed hl2 => do_cons (do_ev (ev_op (ev_op (ev_var rfl) ev_c (rv_ixT (K := K) (ex_t (e05.trans (((ea.trans eb).trans ec).trans ed)) hA) (atI_vi (k := 1) rfl))) (ev_var rfl) (rv_ixL (K := K) (sq_of ((e05.trans (((ea.trans eb).trans ec).trans ed)) _ _ hla)) (atI_vi (k := i) (List.getElem?_eq_getElem kv)))) fun He ee => do_cons (tv_cat (K := K) (xs := pq.map vi) (ys := [vi i]) (tv_ev (ev_var rfl) (ex_t (e05.trans ((((ea.trans eb).trans ec).trans ed).trans ee)) hxa)) (tv_tup (ea_cons (ev_var rfl) ea_nil) (by show 1 ≤ 100000; decide)) (by rw [List.length_map]; show pq.length + 1 ≤ 100000; omega) He (Ex.refl _) _ fun pv Hf ef hpv => do_nil ?_)))))))
            have e5f := ((((ea.trans eb).trans ec).trans ed).trans ee).trans ef
            have e0f := e05.trans e5f
            have hpv2 : Nats K Hf pv (pq ++ [i]) := by
              obtain ⟨b1, ev, sb1⟩ := hpv
              exact ⟨b1, ev, by rw [List.map_append]; exact sb1⟩
            have bg1 := hF.snoc mf1 mf2
            refine ⟨((p0, c0), p, p2, F ++ [(free p.2.1 F)[i]], pq ++ [i], ks.getD i .none), ⟨⟨_, _, _, l2, _, _, rfl, hm.ex e0f, hw.ex e0f, by show Hf l2 = some (.lst ((F ++ [_]).map vi)); rw [List.map_append]; exact (ee.trans ef) _ _ hl2, dk.ex e0f, hpv2⟩, tw, by show Bg p.2.1 (F ++ [_]).length (F ++ [_]); rw [List.length_append]; exact bg1, gk, by show (F ++ [_]).length + d = p.2.1 + 1; rw [List.length_append, List.length_singleton]; omega, by show (pq ++ [_]).length = (F ++ [_]).length; rw [List.length_append, List.length_append, lq]; rfl⟩, fun fv Hg eg hfv => ?_⟩
            have k3 : (kids3 p.2.1 pq F ks)[i]? = some (pq ++ [i], F ++ [(free p.2.1 F)[i]], ks.getD i .none) := by rw [kids3_at ik, gf]
            replace hfv : OdV K Hg fv (ov p p2 (pq ++ [i], F ++ [(free p.2.1 F)[i]], ks.getD i .none)) := hfv
            have e0g := e0f.trans eg
            cases hov : ov p p2 (pq ++ [i], F ++ [(free p.2.1 F)[i]], ks.getD i .none) with
            | none =>
              rw [hov] at hfv
              replace hfv : fv = .non := hfv
              subst hfv
              refine s_when (b := false) (et_is (et_test (ev_op (ev_var rfl) ev_c (fun H6 e6 Q6 q6 => ⟨rfl, q6 H6 (Ex.refl _)⟩))) rfl) (fun z => by cases z) (fun _ H6 e6 => ⟨((e5.trans e5f).trans eg).trans e6, fun j c hj hc => ?_, _, _, rfl⟩)
              by_cases z : j < i
              · exact no j c z hc
              · have : j = i := by omega
                subst this
                rw [k3] at hc
                cases Option.some.inj hc
                exact hov
            | some fq =>
              rw [hov] at hfv
              obtain ⟨fa, rfl, sfa⟩ := id (show Nats K Hg fv fq from hfv)
              refine s_when (b := true) (et_is (et_test (ev_op (ev_var rfl) ev_c (fun H6 e6 Q6 q6 => ⟨rfl, q6 H6 (Ex.refl _)⟩))) rfl) (fun _ H6 e6 => ?_) (fun z => by cases z)
              refine s_ret (ev_var rfl) fun H7 e7 => q _ H7 (e0g.trans (e6.trans e7)) ?_
              rw [find_at3 k3 hov no]
              exact (show Nats K Hg (.ref fa) fq from hfv).ex (e6.trans e7)
          · obtain ⟨e5, no, y7, y8, hσ⟩ := hP
            subst hσ
            refine s_ret ev_c fun H6 e6 => q _ H6 (e04.trans (e5.trans e6)) ?_
            rw [find_none fun j c hc => no j c (by
              have h1 := (List.getElem?_eq_some_iff.mp hc).1
              rw [kids3_len] at h1
              show j < ((ks.length : Nat) : Int).toNat
              omega) hc]
            rfl
end
end K22
end
section
namespace K22
open PySem PySem.Spec PyProof.Rows L2 Evl RZ Dw M20 M25 CL LK LD
theorem eqv_ints : ∀ a b : List Int, PyData.eqvAll (a.map PyData.int) (b.map PyData.int) = decide (a = b)
  | [], [] => by simp [PyData.eqvAll]
  | [], _ :: _ => by simp [PyData.eqvAll]
  | _ :: _, [] => by simp [PyData.eqvAll]
  | x :: a, y :: b => by
    rw [List.map_cons, List.map_cons, PyData.eqvAll, eqv_ints a b, PyData.eqv]
    by_cases h : x = y
    · subst h
      by_cases h2 : a = b
      · subst h2
        simp
      · simp [h2]
    · simp [h]
theorem ord_perm {n : Nat} {o : List Nat} (h : Ord n o) : o.Perm (List.range n) := by
  have b := bg_ord.mpr h
  exact (List.perm_ext_iff_of_nodup b.nd List.nodup_range).mpr fun a => ⟨fun ha => List.mem_range.mpr (b.low a ha), fun ha => hits n o h a (List.mem_range.mp ha)⟩
theorem up_range (n : Nat) : ((List.range n).map fun k => ((k : Nat) : Int)).Pairwise (· ≤ ·) := by
  rw [List.pairwise_map]
  exact List.pairwise_lt_range.imp fun h => by omega
/-- whole numbers, as they are -/
theorem whole_all {K : PySem.W.Frag} {p c : Addr} {H : Hp} : ∀ {xs : List V} {ds : List PyData}, DzAll K p c H xs ds → ds.all wholeB = true → ∃ is : List Int, xs = is.map V.int ∧ ds = is.map PyData.int
  | _, _, .nil, _ => ⟨[], rfl, rfl⟩
  | _, _, .cons a b, h => by
    rw [List.all_cons, Bool.and_eq_true] at h
    obtain ⟨is, e1, e2⟩ := whole_all b h.2
    cases a with
    | int i => exact ⟨i :: is, by rw [e1]; rfl, by rw [e2]; rfl⟩
    | _ => cases h.1
/-- sorted is what counts up just where it is an order -/
theorem sorted_ord {n : Nat} {is ns : List Int} (pm : ns.Perm is) (up : ns.Pairwise (· ≤ ·)) (len : is.length = n) : decide (ns = (List.range n).map fun k => ((k : Nat) : Int)) = ordB n (.tuple (is.map PyData.int)) := by
  refine Bool.eq_iff_iff.mpr ?_
  rw [decide_eq_true_eq]
  constructor
  · intro e
    have pm2 : is.Perm ((List.range n).map fun k => ((k : Nat) : Int)) := pm.symm.trans (by rw [e])
    show (decide ((is.map PyData.int).length = n) && ((is.map PyData.int).all (belowB n) && decide (((is.map PyData.int).map natOf).Nodup))) = true
    rw [Bool.and_eq_true, Bool.and_eq_true, decide_eq_true_eq, decide_eq_true_eq]
    refine ⟨by rw [List.length_map]; exact len, List.all_eq_true.mpr fun d hd => ?_, ?_⟩
    · obtain ⟨i, hi, rfl⟩ := List.mem_map.mp hd
      obtain ⟨k, hk, rfl⟩ := List.mem_map.mp (pm2.mem_iff.mp hi)
      have := List.mem_range.mp hk
      show (decide (0 ≤ ((k : Nat) : Int)) && decide (((k : Nat) : Int) < (n : Int))) = true
      rw [decide_eq_true (by omega), decide_eq_true (by omega)]
      rfl
    · have e2 : ((is.map PyData.int).map natOf).Perm (List.range n) := by
        have h := (pm2.map PyData.int).map natOf
        rw [List.map_map (l := List.range n), List.map_map (l := List.range n)] at h
        have : List.map (natOf ∘ PyData.int ∘ fun k => ((k : Nat) : Int)) (List.range n) = List.range n := by
          have : (natOf ∘ PyData.int ∘ fun k => ((k : Nat) : Int)) = id := funext fun k => Int.toNat_natCast k
          rw [this, List.map_id]
        rw [this] at h
        exact h
      exact e2.nodup_iff.mpr List.nodup_range
  · intro h
    have h2 : (decide ((is.map PyData.int).length = n) && ((is.map PyData.int).all (belowB n) && decide (((is.map PyData.int).map natOf).Nodup))) = true := h
    rw [Bool.and_eq_true, Bool.and_eq_true, decide_eq_true_eq, decide_eq_true_eq] at h2
    have nn : ∀ i ∈ is, 0 ≤ i ∧ i < (n : Int) := fun i hi => by
      have := List.all_eq_true.mp h2.2.1 (.int i) (List.mem_map.mpr ⟨i, hi, rfl⟩)
      have z : (decide (0 ≤ i) && decide (i < (n : Int))) = true := this
      rw [Bool.and_eq_true, decide_eq_true_eq, decide_eq_true_eq] at z
      exact z
    have od : Ord n (is.map Int.toNat) := by
      refine bg_ord.mp ⟨by rw [List.length_map]; exact len, fun x hx => ?_, ?_⟩
      · obtain ⟨i, hi, rfl⟩ := List.mem_map.mp hx
        have := nn i hi
        omega
      · have := h2.2.2
        rw [List.map_map] at this
        exact this
    have e3 : is = (is.map Int.toNat).map fun k => ((k : Nat) : Int) := by
      rw [List.map_map]
      refine (List.map_id is).symm.trans (List.map_congr_left fun i hi => ?_)
      show i = ((i.toNat : Nat) : Int)
      have := (nn i hi).1
      omega
    have pm3 : ns.Perm ((List.range n).map fun k => ((k : Nat) : Int)) := by
      refine pm.trans ?_
      rw [e3]
      exact (ord_perm od).map _
    exact le_one pm3 up (up_range n)
def inK (wd : Str) : Bool := decide (wd ∈ (["map", "size", "none"] : List Str))
theorem form_str {wd : Str} {ds : List PyData} : formP (.tuple (.str wd :: ds)) = (inK wd && decide (ds.length + 1 = if decide (wd = "size") = true then 1 else 2)) := by
  have h1 : ("map" : Str) ≠ "size" := by decide +kernel
  have h2 : ("none" : Str) ≠ "size" := by decide +kernel
  match ds with
  | [] =>
    show decide (wd = "size") = _
    by_cases e : wd = "size"
    · rw [decide_eq_true e, if_pos rfl, show inK wd = true from decide_eq_true (by rw [e]; decide +kernel)]
      rfl
    · rw [decide_eq_false e, if_neg (by decide), show decide (([] : List PyData).length + 1 = 2) = false from rfl, Bool.and_false]
  | [b] =>
    show (decide (wd = "map") || decide (wd = "none")) = _
    by_cases e : wd = "size"
    · rw [decide_eq_true e, if_pos rfl, show decide (([b] : List PyData).length + 1 = 1) = false from rfl, Bool.and_false, e, decide_eq_false (Ne.symm h1), decide_eq_false (Ne.symm h2)]
      rfl
    · rw [decide_eq_false e, if_neg (by decide), show decide (([b] : List PyData).length + 1 = 2) = true from rfl, Bool.and_true]
      refine Bool.eq_iff_iff.mpr ?_
      unfold inK
      rw [Bool.or_eq_true, decide_eq_true_eq, decide_eq_true_eq, decide_eq_true_eq]
      simp [e]
  | _ :: _ :: _ =>
    show false = _
    rw [Bool.and_comm]
    refine (show (decide _ && _) = false from ?_).symm
    rw [decide_eq_false]
    · rfl
    · simp only [List.length_cons]
      split <;> omega
section
variable {P : Program} {w : World} {K : PySem.W.Frag} {mg : Str → Option Value} {base : Heap} {σ : L2.St} {H : Hp} {ta tb : TE}
/-- [2, 1][int(b)] -/
theorem ev_two1 {b : Bool} (hb : Ev tb σ H (.bl b)) : Ev (tOp (rIxL K) (tLst (tCons (tC (.int 2)) (tCons (tC (.int 1)) tNil))) (tCB rInt1 (tCons tb tNil))) σ H (vi (if b = true then 1 else 2)) := fun H1 e Q q =>
  do_op (el_lst (vs := [.int 2, .int 1]) (ea_cons ev_c (ea_cons ev_c ea_nil)) (by show 2 ≤ 100000; decide) H1 e _ fun l H2 nl e2 hl => ev_intB hb H2 (e.trans e2) _ fun H3 e3 => ⟨l, [.int 2, .int 1], _, vi (if b = true then 1 else 2), rfl, rfl, sq_of (e3 _ _ hl), by cases b <;> rfl, q H3 (e2.trans e3)⟩)
def sp_due (K : PySem.W.Frag) : Sp := spX (fun (z : (Addr × Addr) × MArg × MArg × PyData) vs H => (∃ u v w y, vs = [u, v, w, y] ∧ MA K H u v z.2.1 ∧ Mdl K H w z.2.2.1.2.1 z.2.2.1.2.2 ∧ Dz K z.1.1 z.1.2 H y z.2.2.2) ∧ Pair2 z.2.1 z.2.2.1 ∧ Gd 50 30000 z.2.2.2) (fun z v H => Dp K H v (judgedW z.2.1 z.2.2.1 z.2.2.2))
theorem c_due (T : Txt mg) (D : Df K mg "_law_due" s__law_due ["_law_signature_here", "_law_one", "_law_other", "_law_paper"]) (c_led : Cl P w K mg base 1 "_law_led" (sp_renamed K)) (c_law_path : ∀ d : Nat, Cl P w K mg base (d + 2) "_law_path" (sp_path K d)) : Cl P w K mg base 10 "_law_due" (sp_due K) := by
  refine cl_of (k := 9) D sc__law_due (fun vs H Q E h => ?_) (fun f cdv A outer s H vs Q E hr h => ?_)
  · obtain ⟨z, ⟨⟨u, v, w, y, rfl, _⟩, _⟩, _⟩ := h
    rfl
  · obtain ⟨⟨⟨p0, c0⟩, p, p2, d⟩, ⟨⟨u, v, x3, y, rfl, hm, hw, hy⟩, pr, g⟩, q⟩ := h
    have n6 : p.2.1 ≤ 6 := (show MdlOk p.1 p.2.1 p.2.2 from pr.ok.2).n6
    have c_path := c_law_path (p.2.1 + 1)
    refine ⟨_, (pss_cons (ps_if (PW.pt (pw_or (pt_not (pt_val (pe_callB call_isi (by rfl) T.z_isinstance (by decide +kernel) (pa_cons (pv 3) (pa_cons (pe_ty "tuple" (by rfl) T.z_tuple (by decide +kernel)) pa_nil))))) (pw_or (pt_cmpR (op_eqD hr.units) (pv 3) (pe_tup pa_nil) (nomark _)) (pw_or1 (pt_not (pt_val (pe_callB call_isi (by rfl) T.z_isinstance (by decide +kernel) (pa_cons (pe_ix ix_tup (pv 3) pe_int (fun _ _ => rfl)) (pa_cons (pe_ty "str" (by rfl) T.z_str (by decide +kernel)) pa_nil)))))))))
        (pss_one (ps_ret (pe_tup (pa_cons pe_str pa_nil))))
        pss_nil)
      (pss_cons (ps_if (PW.pt (pw_or (pt_cmpR op_notIn_seq (pe_ix ix_tup (pv 3) pe_int (fun _ _ => rfl)) (pe_lst (pa_cons pe_str (pa_cons pe_str (pa_cons pe_str pa_nil)))) (by rfl)) (pw_or1 (pt_cmpR op_ne (pe_callB call_len_seq (by rfl) T.z_len PySem.boot_len (pa_cons (pv 3) pa_nil)) (pe_ix ix_list (pe_lst (pa_cons pe_int (pa_cons pe_int pa_nil))) (pe_callTy call_int1 (by rfl) T.z_int (by decide +kernel) (pa_cons (pe_cmpR op_eq (pe_ix ix_tup (pv 3) pe_int (fun _ _ => rfl)) pe_str (nomark _)) pa_nil)) (fun _ _ => rfl)) (nomark _)))))
        (pss_one (ps_ret (pe_tup (pa_cons pe_str pa_nil))))
        pss_nil)
      (pss_cons (ps_if (pt_cmpR op_ne (pe_cmpR op_eq (pe_ix ix_tup (pv 3) pe_int (fun _ _ => rfl)) pe_str (nomark _)) (pe_cmpR op_ne (pe_ix ix_tup (pv 1) pe_int (fun _ _ => rfl)) (pe_ix ix_tup (pv 2) pe_int (fun _ _ => rfl)) (nomark _)) (nomark _))
        (pss_one (ps_ret (pe_tup (pa_cons pe_str pa_nil))))
        pss_nil)
      (pss_cons (ps_if (pt_cmpR op_eq (pe_ix ix_tup (pv 3) pe_int (fun _ _ => rfl)) pe_str (nomark _))
        (pss_one (ps_ret pe_non))
        pss_nil)
      (pss_cons (ps_if (pt_cmpR op_eq (pe_ix ix_tup (pv 3) pe_int (fun _ _ => rfl)) pe_str (nomark _))
        (pss_cons (ps_set (i := 4) sc__law_due.nd rfl (.inl rfl) (pe_ix ix_tup (pv 3) pe_int (fun _ _ => rfl)))
        (pss_cons (ps_if (PW.pt (pw_or (pt_not (pt_val (pe_callB call_isi (by rfl) T.z_isinstance (by decide +kernel) (pa_cons (pv 4) (pa_cons (pe_ty "tuple" (by rfl) T.z_tuple (by decide +kernel)) pa_nil))))) (pw_or1 (pt_cmpR op_ne (pe_callB call_len_seq (by rfl) T.z_len PySem.boot_len (pa_cons (pv 4) pa_nil)) (pe_ix ix_tup (pv 1) pe_int (fun _ _ => rfl)) (nomark _)))))
          (pss_one (ps_ret (pe_tup (pa_cons pe_str pa_nil))))
          pss_nil)
        (pss_cons (ps_if (pt_cmpR (op_neD hr.units) (pe_lc (own := [("_law_number", 6)]) (g := (gName 6)) (by rfl) sc__law_due.nd (pi_tup (pv 4)) (blkOk_by (own := [("_law_number", 6)]) (N := ["_law_signature_here", "_law_one", "_law_other", "_law_paper", "_law_order_here", "_law_path_here", "_law_number"]) (sc := (defScope s__law_due)) (by decide +kernel)) (fun _ _ _ _ _ => (pg_name (i := 6) sc__law_due.nd rfl (.inl rfl))) (fun _ _ _ _ _ => (pts_one (PW.pt (pw_or (pt_val (pe_callB (call_isiK K) (by rfl) T.z_isinstance (by decide +kernel) (pa_cons (pv 6) (pa_cons (pe_ty "bool" (by rfl) T.z_bool (by decide +kernel)) pa_nil)))) (pw_or1 (pt_not (pt_val (pe_callB (call_isiK K) (by rfl) T.z_isinstance (by decide +kernel) (pa_cons (pv 6) (pa_cons (pe_ty "int" (by rfl) T.z_int (by decide +kernel)) pa_nil)))))))))) (fun _ _ _ _ _ => (pv 6))) (pe_lst pa_nil) (nomark _))
          (pss_one (ps_ret (pe_tup (pa_cons pe_str pa_nil))))
          pss_nil)
        (pss_cons (ps_if (PW.pt (pw_or (pt_cmpR (op_neD hr.units) (pe_callB (cr_sortedT) (by rfl) T.z_sorted (by decide +kernel) (pa_cons (pv 4) pa_nil)) (pe_listRg rfl (by rfl) T.z_list (prg_1 (by rfl) T.z_range (pe_ix ix_tup (pv 1) pe_int (fun _ _ => rfl)))) (nomark _)) (pw_or1 (pt_cmpR (op_neD hr.units) (pe_cl c_led hr (by first | decide | omega) (by rfl) (pa_cons (pv 0) (pa_cons (pv 1) (pa_cons (pv 4) pa_nil)))) (pv 2) (nomark _)))))
          (pss_one (ps_ret (pe_tup (pa_cons pe_str pa_nil))))
          pss_nil)
        (pss_one (ps_ret pe_non))))))
        pss_nil)
      (pss_cons (ps_set (i := 5) sc__law_due.nd rfl (.inl rfl) (pe_cl c_path hr (by first | decide | omega) (by rfl) (pa_cons (pv 0) (pa_cons (pv 1) (pa_cons (pv 2) (pa_cons (pe_lst pa_nil) (pa_cons (pe_ix ix_tup (pv 3) pe_int (fun _ _ => rfl)) (pa_cons (pe_tup pa_nil) pa_nil))))))))
      (pss_cons (ps_if (pt_cmpR op_isN (pv 5) pe_non (nomark _))
        (pss_one (ps_ret pe_non))
        pss_nil)
      (pss_one (ps_ret (pe_tup (pa_cons pe_str (pa_cons (pv 5) pa_nil)))))))))))), ?_⟩
    replace hm : MA K H u v p := hm
    replace hw : Mdl K H x3 p2.2.1 p2.2.2 := hw
    replace hy : Dz K p0 c0 H y d := hy
    replace pr : Pair2 p p2 := pr
    replace g : Gd 50 30000 d := g
    replace q : ∀ v H', Ex H H' → Dp K H' v (judgedW p p2 d) → Q v H' := q
    obtain ⟨va, vt, rfl, hva, hvt⟩ := id hm.2
    obtain ⟨wa, wt, rfl, hwa, hwt⟩ := id hw
    have word : ∀ {s : Str} {H3 : Hp} {σ : L2.St}, Ex H H3 → (∀ {rv : V} {H4 : Hp}, Ex H H4 → Dp K H4 rv (.tuple [.str s]) → Q rv H4) → tRet (tTup (tCons (tC (.str s)) tNil)) { nx := fun _ H' => Q .non H', rt := Q } σ H3 := fun {s H3 σ} e k => s_retP (tv_tup (K := K) (xs := [.str s]) (ea_cons ev_c ea_nil) (by show 1 ≤ 100000; decide)) fun rv H4 e4 hv => by
      obtain ⟨b, rfl, sb⟩ := hv
      exact k (e.trans e4) (.tup sb (.cons (.str _) .nil))
    refine q_when (b := !isTup d || (decide (lenD d = 0) || !isStr (head0 d))) (et_or (et_not (et_val (ev_isTup (K := K) (ev_var rfl) ev_c hy))) (fun ht => ?_)) (fun hb H1 e1 => ?_) (fun hb H1 e1 => ?_)
    · obtain ⟨a, xs, ds, rfl, rfl, hA, hD⟩ := tup_of hy (by simpa using ht)
      refine et_or (a := decide (lenD (.tuple ds) = 0)) (et_test (fun H2 e2 Q2 q2 => do_op (ev_var rfl H2 e2 _ fun H3 e3 => do_tup (do_nil ⟨Nat.zero_le _, fun r nr => ⟨.tuple ds, .tuple [], .tup (ex_t ((e2.trans e3).trans (Ex.new nr)) hA) (DzAll.dp (hD.ex ((e2.trans e3).trans (Ex.new nr)))), .tup (st_of upd_same) .nil, g.shaped (by decide), by decide +kernel, by
        rw [eqv_unit]
        have : ds.isEmpty = decide (lenD (.tuple ds) = 0) := by cases ds <;> simp [lenD]
        rw [this]
        exact q2 _ (e3.trans (Ex.new nr))⟩⟩)))) (fun hl => ?_)
      cases hD with
      | nil => cases hl
      | cons h0 hn => exact et_not (et_val (ev_isStr (K := K) (ev_op (ev_var rfl) ev_c (rv_ixT (K := K) hA (atI_vi (k := 0) rfl))) ev_c h0))
    · have ns : ∀ s : Str, isS s (head0 d) = false := fun s => by
        cases hh : isS s (head0 d) with
        | false => rfl
        | true =>
          have h0 := isS_str hh
          have ht : isTup d = true := by
            cases d <;> first | rfl | cases h0
          rw [ht, h0] at hb
          have : lenD d ≠ 0 := fun z => by
            cases d with
            | tuple ds =>
              cases ds with
              | nil => cases h0
              | cons _ _ => cases z
            | _ => cases ht
          rw [decide_eq_false this] at hb
          cases hb
      have nf : formP d = false := by
        cases hf : formP d with
        | false => rfl
        | true =>
          rcases form_cases hf with ⟨a, rfl, ha⟩ | ⟨a, b, rfl, ha⟩
          · have := ns "size"
            rw [show isS "size" (head0 (.tuple [a])) = true from ha] at this
            cases this
          · rcases ha with ha | ha
            · have := ns "map"
              rw [show isS "map" (head0 (.tuple [a, b])) = true from ha] at this
              cases this
            · have := ns "none"
              rw [show isS "none" (head0 (.tuple [a, b])) = true from ha] at this
              cases this
      exact word e1 fun e h => q _ _ e (by
        rw [judgedW, if_neg (by rw [nf]; decide)]
        exact h)
    have ht : isTup d = true := by
      cases h : isTup d with
      | true => rfl
      | false => rw [h] at hb; cases hb
    obtain ⟨a, xs, ds, rfl, rfl, hA, hD⟩ := tup_of hy ht
    replace hb : (decide (lenD (.tuple ds) = 0) || !isStr (head0 (.tuple ds))) = false := hb
    rw [Bool.or_eq_false_iff] at hb
    cases hD with
    | nil => cases hb.1
    | @cons x0 xs1 d0 ds1 h0 hn =>
    have hs : isStr d0 = true := by
      have z : (!isStr d0) = false := hb.2
      simpa using z
    obtain ⟨wd, rfl⟩ : ∃ wd, d0 = .str wd := by
      cases d0 with
      | str z => exact ⟨z, rfl⟩
      | _ => cases hs
    cases h0 with
    | str =>
    have lx := hn.len
    have e0 : ∀ {H2 : Hp}, Ex H H2 → ∀ {σ : L2.St}, σ[3]? = some (some (.ref a)) → Ev (tOp (rIxT K) (tVar 3) (tC (.int 0))) σ H2 (.str wd) := fun {_} e {_} h => ev_op (ev_var h) ev_c (rv_ixT (K := K) (ex_t e hA) (atI_vi (k := 0) rfl))
    have eqw : ∀ {s : Str} {H2 : Hp}, Ex H H2 → ∀ {σ : L2.St}, σ[3]? = some (some (.ref a)) → Ev (tOp rEq (tOp (rIxT K) (tVar 3) (tC (.int 0))) (tC (.str s))) σ H2 (.bl (decide (wd = s))) := fun {s H2} e {σ} h => ev_is (ev_op (e0 e h) ev_c (rv_eq rfl)) (by
      congr 1
      exact decide_eq_decide.mpr ⟨fun z => V.str.inj z, fun z => by rw [z]⟩)
    refine q_when (b := !formP (.tuple (.str wd :: ds1))) (et_is (et_or (a := !inK wd) (b := !decide (ds1.length + 1 = if decide (wd = "size") = true then 1 else 2)) (et_test (fun H2 e2 Q2 q2 => do_op (e0 (e1.trans e2) rfl H2 (Ex.refl _) _ fun H3 e3 => el_lst (vs := (["map", "size", "none"] : List Str).map V.str) (ea_cons ev_c (ea_cons ev_c (ea_cons ev_c ea_nil))) (by show 3 ≤ 100000; decide) H3 (Ex.refl _) _ fun l H4 nl e4 hl => ⟨l, _, rfl, .inl (sq_of hl), rfl, flat_all _, by
      rw [if_pos rfl, inV_str]
      exact q2 H4 (e3.trans e4)⟩))) (fun _ => et_test (ev_is (ev_op (ev_lenT (ev_var rfl) (ex_t e1 hA)) (ev_two1 (K := K) (eqw e1 rfl)) (rv_ne rfl)) (by
        congr 2
        rw [List.length_cons, lx]
        exact decide_eq_decide.mpr ⟨fun z => by have := V.int.inj z; omega, fun z => by rw [z]⟩)))) (by
      rw [form_str]
      cases inK wd <;> cases decide (ds1.length + 1 = if decide (wd = "size") = true then 1 else 2) <;> rfl)) (fun hf H2 e2 => ?_) (fun hf H2 e2 => ?_)
    · rw [Bool.not_eq_true'] at hf
      exact word (e1.trans e2) fun e h => q _ _ e (by
        rw [judgedW, if_neg (by rw [hf]; decide)]
        exact h)
    rw [Bool.not_eq_false'] at hf
    have e02 := e1.trans e2
    have jw : judgedW p p2 (.tuple (.str wd :: ds1)) = if (decide (p.2.1 = p2.2.1) == decide (wd = "size")) = true then .tuple [.str "size"] else if (decide (wd = "map") && !leadsB p p2 (snd (.tuple (.str wd :: ds1)))) = true then .tuple [.str "map"] else if decide (wd = "none") = true then treeD (oddT p p2 p.2.1 [] [] (snd (.tuple (.str wd :: ds1)))) else .none := by
      rw [judgedW, if_pos hf]
      rfl
    rw [jw] at q
    refine q_when (b := decide (p.2.1 = p2.2.1) == decide (wd = "size")) (et_is (et_test (ev_op (eqw e02 rfl) (ev_is (ev_op (ev_op (ev_var rfl) ev_c (rv_ixT (K := K) (ex_t e02 hva) (atI_vi (k := 0) rfl))) (ev_op (ev_var rfl) ev_c (rv_ixT (K := K) (ex_t e02 hwa) (atI_vi (k := 0) rfl))) (rv_ne rfl)) (show V.bl (!decide (vi p.2.1 = vi p2.2.1)) = V.bl (!decide (p.2.1 = p2.2.1)) by rw [vi_eq])) (rv_ne rfl))) (by
      cases decide (p.2.1 = p2.2.1) <;> cases decide (wd = "size") <;> rfl)) (fun hs2 H3 e3 => ?_) (fun hs2 H3 e3 => ?_)
    · rw [if_pos hs2] at q
      exact word (e02.trans e3) fun e h => q _ _ e h
    rw [if_neg (by rw [hs2]; decide)] at q
    have e03 := e02.trans e3
    refine q_when (b := decide (wd = "size")) (et_test (eqw e03 rfl)) (fun hz H4 e4 => ?_) (fun hz H4 e4 => ?_)
    · have wz := of_decide_eq_true hz
      rw [wz, show decide (("size" : Str) = "map") = false by decide +kernel, show decide (("size" : Str) = "none") = false by decide +kernel, Bool.false_and, if_neg (by decide), if_neg (by decide)] at q
      exact s_ret ev_c fun H5 e5 => q _ H5 (e03.trans (e4.trans e5)) .non
    have wz := of_decide_eq_false hz
    have e04 := e03.trans e4
    have en : p.2.1 = p2.2.1 := by
      rw [hz] at hs2
      cases hq : decide (p.2.1 = p2.2.1) with
      | true => exact of_decide_eq_true hq
      | false => rw [hq] at hs2; cases hs2
    have tw : Two p p2 := ⟨pr.ok, pr.ok2, pr.es, en.symm⟩
    obtain ⟨b1, rfl, hwd⟩ : ∃ b1, ds1 = [b1] ∧ (wd = "map" ∨ wd = "none") := by
      rcases form_cases hf with ⟨a, e, ha⟩ | ⟨a, b, e, ha⟩
      · cases e
        exact absurd (of_decide_eq_true ha) wz
      · cases e
        exact ⟨b, rfl, ha.imp of_decide_eq_true of_decide_eq_true⟩
    have g1 : Gd 50 30000 b1 := gd_mem g (List.mem_cons_of_mem _ (List.mem_singleton.mpr rfl))
    cases hn with
    | @cons y1 _ _ _ h1 hn2 =>
    cases hn2 with
    | nil =>
    have ix1 : ∀ {H2 : Hp}, Ex H H2 → ∀ {σ : L2.St}, σ[3]? = some (some (.ref a)) → Ev (tOp (rIxT K) (tVar 3) (tC (.int 1))) σ H2 y1 := fun {_} e {_} h => ev_op (ev_var h) ev_c (rv_ixT (K := K) (ex_t e hA) (atI_vi (k := 1) rfl))
    replace q : ∀ v H', Ex H H' → Dp K H' v (if (decide (wd = "map") && !leadsB p p2 b1) = true then .tuple [.str "map"] else if decide (wd = "none") = true then treeD (oddT p p2 p.2.1 [] [] b1) else .none) → Q v H' := q
    refine q_when (b := decide (wd = "map")) (et_test (eqw e04 rfl)) (fun hmp H5 e5 => ?_) (fun hmp H5 e5 => ?_)
    · have wm := of_decide_eq_true hmp
      have e05 := e04.trans e5
      rw [hmp, Bool.true_and, show decide (wd = "none") = false by rw [wm]; decide +kernel] at q
      have qmap : leadsB p p2 b1 = false → ∀ {σ : L2.St} {H3 : Hp}, Ex H H3 → tRet (tTup (tCons (tC (.str "map")) tNil)) { nx := fun _ H' => Q .non H', rt := Q } σ H3 := fun hl {σ H3} e => word e fun e' h => q _ _ e' (by rw [hl]; exact h)
      refine q_asg (ix1 e05 rfl) fun H6 e6 => ?_
      have e06 := e05.trans e6
      show tSeq _ _ _ [some u, some (.ref va), some (.ref wa), some (.ref a), some y1, none, none] H6
      refine q_when (b := !isTup b1 || !decide (lenD b1 = p.2.1)) (et_or (et_not (et_val (ev_isTup (K := K) (ev_var rfl) ev_c (h1.ex e06)))) (fun ht1 => ?_)) (fun hb1 H7 e7 => ?_) (fun hb1 H7 e7 => ?_)
      · obtain ⟨ra, us2, rs, rfl, rfl, hR, hRD⟩ := tup_of h1 (by simpa using ht1)
        have lr := hRD.len
        exact et_is (et_test (len_ne (K := K) (j := p.2.1) (ev_var rfl) (ex_t e06 hR) (ev_op (ev_var rfl) ev_c (rv_ixT (K := K) (ex_t e06 hva) (atI_vi (k := 0) rfl))))) (by rw [lr]; rfl)
      · refine qmap ?_ (e06.trans e7)
        have : ordB p.2.1 b1 = false := by
          cases b1 with
          | tuple rs =>
            have h : (!decide (rs.length = p.2.1)) = true := hb1
            show (decide (rs.length = p.2.1) && _) = false
            rw [Bool.not_eq_true'] at h
            rw [h, Bool.false_and]
          | _ => rfl
        unfold leadsB
        rw [this, Bool.false_and]
      have ht1 : isTup b1 = true := by
        cases h : isTup b1 with
        | true => rfl
        | false => rw [h] at hb1; cases hb1
      obtain ⟨ra, us2, rs, rfl, rfl, hR, hRD⟩ := tup_of h1 ht1
      have lr := hRD.len
      have ln : rs.length = p.2.1 := by
        have h : (!decide (rs.length = p.2.1)) = false := hb1
        simpa using h
      have e07 := e06.trans e7
      have at_ : ∀ {i : Nat}, i ∈ List.range us2.length → ∀ H', Ex H H' → Dz K p0 c0 H' (us2.getD i .non) (rs.getD i .none) := fun {i} hi H' e => by
        have il := List.mem_range.mp hi
        obtain ⟨z, hz, hh⟩ := hRD.get (List.getElem?_eq_getElem il)
        rw [List.getD_eq_getElem?_getD, List.getD_eq_getElem?_getD, hz, List.getElem?_eq_getElem il]
        exact hh.ex e
      have gi : ∀ i ∈ List.range us2.length, Gd 50 30000 (rs.getD i .none) := fun i hi => by
        have il := List.mem_range.mp hi
        rw [lr] at il
        rw [List.getD_eq_getElem?_getD, List.getElem?_eq_getElem il]
        exact gd_mem g1 (List.getElem_mem il)
      refine q_when (b := !(((List.range us2.length).filter fun i => !wholeB (rs.getD i .none)).isEmpty)) (et_val (ev_neNilB (K := K) (p := p0) (c := c0) (u := fun i => us2.getD i .non) (f := fun i => rs.getD i .none) (elp_lcT (K := K) (a := ra) (xs := us2) (j := 6) (vs := [6]) (ev_var rfl) (ex_t e07 hR) (by omega) (fun i => !wholeB (rs.getD i .none)) (fun v i _ => v = us2.getD i .non) (fun _ _ _ _ _ z => z) (fun _ => rfl) (fun i x H8 e8 hx => ⟨?_, fun _ => ep_ev (ev_var rfl) fun _ e3 => by rw [List.getD_eq_getElem?_getD, hx]; rfl⟩)) (fun i hi H' e' => at_ (List.mem_filter.mp hi).1 H' (e07.trans e')) (fun i hi => gi i (List.mem_filter.mp hi).1))) (fun hb2 H8 e8 => ?_) (fun hb2 H8 e8 => ?_)
      · obtain ⟨z, hz, hh⟩ := hRD.get hx
        rw [List.getD_eq_getElem?_getD, hz]
        exact et_noInt (K := K) (ev_var rfl) ev_c (ev_var rfl) ev_c (hh.ex (e07.trans e8))
      · rw [filt_all wholeB PyData.none rs lr, Bool.not_eq_true'] at hb2
        refine qmap ?_ (e07.trans e8)
        have : ordB p.2.1 (.tuple rs) = false := by
          show (decide (rs.length = p.2.1) && (rs.all (belowB p.2.1) && _)) = false
          have : rs.all (belowB p.2.1) = false := by
            cases hq : rs.all (belowB p.2.1) with
            | false => rfl
            | true =>
              have : rs.all wholeB = true := List.all_eq_true.mpr fun z hz => by
                have := List.all_eq_true.mp hq z hz
                cases z <;> first | rfl | cases this
              rw [this] at hb2
              cases hb2
          rw [this, Bool.false_and, Bool.and_false]
        unfold leadsB
        rw [this, Bool.false_and]
      rw [filt_all wholeB PyData.none rs lr, Bool.not_eq_false'] at hb2
      obtain ⟨is, rfl, rfl⟩ := whole_all hRD hb2
      rw [List.length_map] at ln
      have e08 := e07.trans e8
      refine q_when (b := !leadsB p p2 (.tuple (is.map PyData.int))) ?_ (fun hb3 H9 e9 => ?_) (fun hb3 H9 e9 => ?_)
      · refine et_is (et_or (a := !ordB p.2.1 (.tuple (is.map PyData.int))) (b := !decide (rens p.2.1 (natsT (.tuple (is.map PyData.int))) p.1 p.2.2 = p2.2.2)) (et_val (fun H9 e9 Q9 q9 => do_op (do_cb (do_cons (ev_var rfl H9 e9 _ fun H10 e10 => do_nil ⟨ra, is, rfl, ex_t (e08.trans (e9.trans e10)) hR, fun ns p9 pm up np => el_lrg (n := p.2.1) (ev_op (ev_var rfl) ev_c (rv_ixT (K := K) (ex_t ((e08.trans (e9.trans e10)).trans (Ex.new np)) hva) (atI_vi (k := 0) rfl))) (by omega) _ (Ex.refl _) _ fun l2 H11 nl2 e11 hl2 => ?_⟩))))) (fun ho => ?_)) ?_
        · have hp9 : H11 p9 = some (.lst (ns.map V.int)) := e11 _ _ upd_same
          have dpi : ∀ ks : List Int, DpAll K H11 (ks.map V.int) (ks.map PyData.int) := fun ks => by
            induction ks with
            | nil => exact .nil
            | cons k ks ih => exact .cons (.int _) ih
          have erg : (List.range p.2.1).map vi = ((List.range p.2.1).map fun k => ((k : Nat) : Int)).map V.int := by rw [List.map_map]; rfl
          refine ⟨.list (ns.map PyData.int), .list (((List.range p.2.1).map fun k => ((k : Nat) : Int)).map PyData.int), .lst (sq_of hp9) (dpi ns), .lst (sq_of (by rw [← erg]; exact hl2)) (dpi _), (gd_lst (k := 50) (W := 30000) (L := (ns.map PyData.int).length) (fun d hd => ?_) (Nat.le_refl _)).shaped (by decide), (gd_lst (k := 0) (W := 10) (L := 6) (fun d hd => ?_) (by rw [List.length_map, List.length_map, List.length_range]; exact n6)).shaped (by decide), ?_⟩
          · obtain ⟨i, hi, rfl⟩ := List.mem_map.mp hd
            exact gd_mem g1 (List.mem_map.mpr ⟨i, pm.mem_iff.mp hi, rfl⟩)
          · obtain ⟨i, hi, rfl⟩ := List.mem_map.mp hd
            obtain ⟨k, hk, rfl⟩ := List.mem_map.mp hi
            have := List.mem_range.mp hk
            exact gd_int (n := k) (by omega)
          · have : PyData.eqv (.list (ns.map PyData.int)) (.list (((List.range p.2.1).map fun k => ((k : Nat) : Int)).map PyData.int)) = ordB p.2.1 (.tuple (is.map PyData.int)) := by
              rw [PyData.eqv, eqv_ints]
              exact sorted_ord pm up ln
            rw [this]
            exact q9 H11 ((e10.trans (Ex.new np)).trans e11)
        · rw [Bool.not_eq_false'] at ho
          obtain ⟨hr2, hod⟩ := ord_own h1 ho
          have mok2 := rens_ok pr.ok.2 pr.ok.1 hod
          refine et_val (fun H9 e9 Q9 q9 => do_op (ep_call (p.1, p.2.1, p.2.2, natsT (.tuple (is.map PyData.int))) (ea_cons (ev_var rfl) (ea_cons (ev_var rfl) (ea_cons (ev_var rfl) ea_nil))) (fun H10 e10 => ⟨⟨_, _, _, rfl, hm.1.ex (e08.trans e10), hm.2.ex (e08.trans e10), hr2.ex (e08.trans e10)⟩, pr.ok.1, pr.ok.2, hod⟩) H9 e9 _ fun mv H10 e10 (hmv : Mdl K H10 mv p.2.1 (rens p.2.1 (natsT (.tuple (is.map PyData.int))) p.1 p.2.2)) => do_ev (ev_var rfl) fun H11 e11 => ⟨dM _ _, dM p2.2.1 p2.2.2, (hmv.ex e11).dp, (hw.ex (e08.trans ((e9.trans e10).trans e11))).dp, (mok2.gd pr.ok.1).shaped (by decide), ?_, ?_⟩))
          · exact (MdlOk.gd (show MdlOk p2.1 p2.2.1 p2.2.2 from pr.ok2.2) pr.ok2.1).shaped (by decide)
          · have e9 : PyData.eqv (dM p.2.1 (rens p.2.1 (natsT (.tuple (is.map PyData.int))) p.1 p.2.2)) (dM p2.2.1 p2.2.2) = decide (rens p.2.1 (natsT (.tuple (is.map PyData.int))) p.1 p.2.2 = p2.2.2) := by
              rw [eqv_dM]
              exact decide_eq_decide.mpr ⟨fun z => z.2, fun z => ⟨en, z⟩⟩
            rw [e9]
            exact q9 H11 (e10.trans e11)
        · unfold leadsB
          cases ordB p.2.1 (.tuple (is.map PyData.int)) <;> cases decide (rens p.2.1 (natsT (.tuple (is.map PyData.int))) p.1 p.2.2 = p2.2.2) <;> rfl
      · rw [Bool.not_eq_true'] at hb3
        exact qmap hb3 (e08.trans e9)
      · rw [Bool.not_eq_false'] at hb3
        rw [hb3] at q
        exact s_ret ev_c fun H10 e10 => q _ H10 ((e08.trans e9).trans e10) .non
    · have wn : wd = "none" := hwd.resolve_left (of_decide_eq_false hmp)
      have e05 := e04.trans e5
      rw [hmp, Bool.false_and, if_neg (by decide), if_pos (decide_eq_true wn)] at q
      have bg0 : Bg p.2.1 ([] : List Nat).length [] := ⟨rfl, fun x z => (by cases z), List.nodup_nil⟩
      refine do_set (do_cons (do_ev (ev_var rfl) fun Ha ea => do_cons (do_ev (ev_var rfl) fun Hb eb => do_cons (do_ev (ev_var rfl) fun Hc ec => do_cons (el_lst (vs := []) ea_nil (Nat.zero_le _) Hc (Ex.refl _) _ fun l2 Hd nl2 ed hl2 => do_cons (do_ev (ix1 (e05.trans (((ea.trans eb).trans ec).trans ed)) rfl) fun He ee => do_cons (tv_tup (K := K) (xs := []) ea_nil (Nat.zero_le _) He (Ex.refl _) _ fun pv Hf ef hpv => do_nil ?_)))))))
      have e5f := ((((ea.trans eb).trans ec).trans ed).trans ee).trans ef
      have e0f := e05.trans e5f
      refine ⟨((p0, c0), p, p2, [], [], b1), ⟨⟨_, _, _, l2, _, _, rfl, hm.ex e0f, hw.ex e0f, (ee.trans ef) _ _ hl2, h1.ex e0f, hpv⟩, tw, bg0, g1, by show 0 + (p.2.1 + 1) = p.2.1 + 1; omega, rfl⟩, fun fv Hg eg hfv => ?_⟩
      replace hfv : OdV K Hg fv (oddT p p2 p.2.1 [] [] b1) := hfv
      have e0g := e0f.trans eg
      cases hov : oddT p p2 p.2.1 [] [] b1 with
      | none =>
        rw [hov] at hfv q
        replace hfv : fv = .non := hfv
        subst hfv
        exact q_when (b := true) (et_is (et_isNone (ev_var rfl)) rfl) (fun _ H6 e6 => s_ret ev_c fun H7 e7 => q _ H7 (e0g.trans (e6.trans e7)) .non) (fun z => by cases z)
      | some fq =>
        rw [hov] at hfv q
        obtain ⟨fa, rfl, sfa⟩ := id (show Nats K Hg fv fq from hfv)
        refine q_when (b := false) (et_is (et_isNone (ev_var rfl)) rfl) (fun z => by cases z) (fun _ H6 e6 => ?_)
        refine s_retP (tv_tup (K := K) (xs := [.str "tree", .ref fa]) (ea_cons ev_c (ea_cons (ev_var rfl) ea_nil)) (by show 2 ≤ 100000; decide)) fun rv H7 e7 hv => q _ H7 (e0g.trans (e6.trans e7)) ?_
        obtain ⟨b, rfl, sb⟩ := hv
        exact .tup sb (.cons (.str _) (.cons ((show Nats K Hg (.ref fa) fq from hfv).ex (e6.trans e7)).dp .nil))
end
end K22
end
section
namespace K22
open PySem PySem.Spec PyProof.Rows L2 Evl RZ Dw M20 M25 CL LK
theorem paired_takeZ {α β : Type} {R : α → β → Prop} : ∀ {xs : List α} {ys : List β} (k : Nat), Paired R xs ys → Paired R (xs.take k) (ys.take k)
  | _, _, k, .nil => by rw [List.take_nil, List.take_nil]; exact .nil
  | _, _, 0, .cons a b => .nil
  | _, _, k + 1, .cons a b => .cons a (paired_takeZ k b)
theorem paired_dropZ {α β : Type} {R : α → β → Prop} : ∀ {xs : List α} {ys : List β} (k : Nat), Paired R xs ys → Paired R (xs.drop k) (ys.drop k)
  | _, _, k, .nil => by rw [List.drop_nil, List.drop_nil]; exact .nil
  | _, _, 0, .cons a b => .cons a b
  | _, _, k + 1, .cons a b => paired_dropZ k b
/-- one put for another -/
def putAt {α : Type} (l : List α) (k : Nat) (x : α) : List α := l.take k ++ [x] ++ l.drop (k + 1)
theorem putAt_len {α : Type} {l : List α} {k : Nat} {x : α} (h : k < l.length) : (putAt l k x).length = l.length := by
  unfold putAt
  rw [List.length_append, List.length_append, List.length_take, List.length_drop, List.length_singleton]
  omega
theorem putAt_get {α : Type} {l : List α} {k i : Nat} {x : α} (h : k < l.length) : (putAt l k x)[i]? = if i = k then some x else l[i]? := by
  unfold putAt
  by_cases e : i = k
  · subst e
    rw [if_pos rfl, List.append_assoc, List.getElem?_append_right (by rw [List.length_take]; omega), List.length_take, Nat.min_eq_left (by omega), Nat.sub_self]
    rfl
  · rw [if_neg e, List.append_assoc]
    by_cases l1 : i < k
    · rw [List.getElem?_append_left (by rw [List.length_take]; omega), List.getElem?_take_of_lt l1]
    · rw [List.getElem?_append_right (by rw [List.length_take]; omega), List.length_take, Nat.min_eq_left (by omega)]
      obtain ⟨j, rfl⟩ : ∃ j, i = k + 1 + j := ⟨i - k - 1, by omega⟩
      rw [show k + 1 + j - k = j + 1 from by omega]
      show (l.drop (k + 1))[j]? = _
      rw [List.getElem?_drop]
theorem tab_put {n m at_ x : Nat} {t : List Nat} (h : Tab n m t) (ha : at_ < t.length) (hx : x < n) : Tab n m (putAt t at_ x) := ⟨by rw [putAt_len ha, h.len], fun k hk => by
  have : k < (putAt t at_ x).length := by rw [putAt_len ha, h.len]; exact hk
  have e := g_eq this
  rw [putAt_get ha] at e
  by_cases z : k = at_
  · rw [if_pos z] at e
    rw [← Option.some.inj e]
    exact hx
  · rw [if_neg z, g_eq (by rw [h.len]; exact hk)] at e
    rw [← Option.some.inj e]
    exact h.low k hk⟩
theorem mdl_put {sg : List (Str × Nat)} {n k : Nat} {ts : List (List Nat)} {t : List Nat} (h : MdlOk sg n ts) (hk : k < ts.length) (ht : ∀ (h1 : k < sg.length), Tab n sg[k].2 t) : MdlOk sg n (putAt ts k t) := ⟨h.n1, h.n6, by rw [putAt_len hk, h.len], fun i h1 h2 => by
  have e := List.getElem?_eq_getElem h2
  rw [putAt_get hk] at e
  by_cases z : i = k
  · rw [if_pos z] at e
    rw [← Option.some.inj e]
    subst z
    exact ht h1
  · rw [if_neg z, List.getElem?_eq_getElem (by rw [h.len]; exact h1)] at e
    rw [← Option.some.inj e]
    exact h.tab i h1 _⟩
theorem set_putAt {α : Type} : ∀ {l : List α} {k : Nat} {x : α}, k < l.length → l.set k x = putAt l k x
  | _ :: _, 0, _, _ => rfl
  | a :: l, k + 1, x, h => by
    show a :: l.set k x = a :: (l.take k ++ [x] ++ l.drop (k + 1))
    rw [set_putAt (l := l) (k := k) (Nat.lt_of_succ_lt_succ h)]
    rfl
section
variable {K : PySem.W.Frag} {σ : L2.St} {H : Hp} {ta tb te : TE}
theorem tabs_cat {a b : List (List Nat)} (ha : EvP ta σ H (fun v H' => Tabs K H' v a)) (hb : EvP tb σ H (fun v H' => Tabs K H' v b)) (hl : a.length + b.length ≤ 100000) : EvP (tOp (rCatA K) ta tb) σ H (fun v H' => Tabs K H' v (a ++ b)) := fun H1 e1 Q q =>
  ha H1 e1 _ fun v H2 e2 hv => hb H2 (e1.trans e2) _ fun u H3 e3 hu => by
    obtain ⟨x, xs, ev, sa, pa⟩ := hv.ex e3
    obtain ⟨y, ys, eu, sb, pb⟩ := hu
    subst ev eu
    have la := paired_len pa
    have lb := paired_len pb
    refine ⟨x, y, xs, ys, rfl, rfl, sa, sb, sz_of (by omega), fun z => ?_, fun _ z => ?_, fun _ _ p np => ?_⟩
    · subst z
      cases pa
      exact q _ H3 (e2.trans e3) ⟨y, ys, rfl, sb, pb⟩
    · subst z
      cases pb
      rw [List.append_nil] at q
      exact q _ H3 (e2.trans e3) ⟨x, xs, rfl, sa, pa⟩
    · exact q _ _ ((e2.trans e3).trans (Ex.new np)) ⟨p, xs ++ ys, rfl, st_of upd_same, paired_imp (fun _ _ z => Nats.ex (Ex.new np) z) (paired_app pa pb)⟩
theorem tabs_one {t : List Nat} (h : EvP te σ H (fun v H' => Nats K H' v t)) : EvP (tTup (tCons te tNil)) σ H (fun v H' => Tabs K H' v [t]) := fun H1 e Q q =>
  do_tup (do_cons (h H1 e _ fun v H2 e2 hv => do_nil ⟨by show 1 ≤ sizeLine; decide, fun p np => q _ _ (e2.trans (Ex.new np)) ⟨p, [v], rfl, st_of upd_same, .cons (hv.ex (Ex.new np)) .nil⟩⟩))
theorem tabs_to {ts : List (List Nat)} {tvs : List V} {b : Addr} {k : Nat} (he : Ev te σ H (.ref b)) (hB : SqT K H b tvs) (hR : Paired (Nats K H) tvs ts) (hk : Ev ta σ H (vi k)) : EvP (tSl (rSlA K) te tNoPart (tPart ta)) σ H (fun v H' => Tabs K H' v (ts.take k)) := (tv_sl (K := K) (tv_ev he hB) eo_none (eo_some hk)).imp fun v H' e ⟨a, ev, s⟩ => ⟨a, tvs.take k, ev, by rw [cut_to'] at s; exact s, paired_takeZ k (paired_imp (fun _ _ z => Nats.ex e z) hR)⟩
theorem tabs_from {ts : List (List Nat)} {tvs : List V} {b : Addr} {k : Nat} (he : Ev te σ H (.ref b)) (hB : SqT K H b tvs) (hR : Paired (Nats K H) tvs ts) (hk : Ev ta σ H (vi k)) : EvP (tSl (rSlA K) te (tPart ta) tNoPart) σ H (fun v H' => Tabs K H' v (ts.drop k)) := (tv_sl (K := K) (tv_ev he hB) (eo_some hk) eo_none).imp fun v H' e ⟨a, ev, s⟩ => ⟨a, tvs.drop k, ev, by rw [cut_from'] at s; exact s, paired_dropZ k (paired_imp (fun _ _ z => Nats.ex e z) hR)⟩
end
/-- what a tree isn't made of stays -/
def Kept (A : List Addr) (H H' : Hp) : Prop := ∀ b o, b ∉ A → H b = some o → H' b = some o
theorem Kept.en {A : List Addr} {H H' : Hp} (h : Kept A H H') (l : ∀ b ∈ A, ∃ xs, H b = some (.lst xs)) : EN H H' := fun a u nl hu => by
  by_cases z : a ∈ A
  · obtain ⟨xs, hxs⟩ := l a z
    rw [hxs] at hu
    exact absurd (Option.some.inj hu).symm (nl xs)
  · exact h a u z hu
section
variable {P : Program} {w : World} {K : PySem.W.Frag} {mg : Str → Option Value} {base : Heap}
def sp_turned (K : PySem.W.Frag) : Sp := fun vs H Q _ => ∃ (p c : Addr) (t n : Nat) (sg : List (Str × Nat)) (ts : List (List Nat)) (u v : V), vs = [.ref p, u, v] ∧ Pur H p c t ∧ t ≤ 80000 ∧ Mdl K H v n ts ∧ SigOk sg ∧ MdlOk sg n ts ∧ ∀ v' ts' H' t', Off H H' p c → Pur H' p c t' → t' ≤ t + 3 → Mdl K H' v' n ts' → MdlOk sg n ts' → Q v' H'
theorem c_turned (T : Txt mg) (D : Df K mg "_law_turned" s_turned ["_law_purse_here", "_law_signature_here", "_law_model_here"]) (c_draw : Cl P w K mg base 1 "_law_draw" sp_draw) : Cl P w K mg base 2 "_law_turned" (sp_turned K) := by
  refine cl_of (k := 1) D sc_turned (fun vs H Q E h => ?_) (fun f cdv A outer s H vs Q E hr h => ?_)
  · obtain ⟨p, c, t, n, sg, ts, u, v, rfl, _⟩ := h
    rfl
  · obtain ⟨p, c, t, n, sg, ts, u, v, rfl, pu, t8, hM, sok, mok, q⟩ := h
    refine ⟨_, (pss_cons (ps_asg (pv 2) (pg_tup (by rfl) (pgs_cons (pg_name (i := 3) sc_turned.nd rfl (.inl rfl)) (pgs_cons (pg_name (i := 4) sc_turned.nd rfl (.inl rfl)) pgs_nil))))
      (pss_cons (ps_set (i := 5) sc_turned.nd rfl (.inl rfl) (pe_cl c_draw hr (by first | decide | omega) (by rfl) (pa_cons (pv 0) (pa_cons (pe_callB call_len_seq (by rfl) T.z_len PySem.boot_len (pa_cons (pv 4) pa_nil)) pa_nil))))
      (pss_cons (ps_set (i := 6) sc_turned.nd rfl (.inl rfl) (pe_callTy call_list_of (by rfl) T.z_list (by decide +kernel) (pa_cons (pe_ix ix_tup (pv 4) (pv 5) (fun _ _ => rfl)) pa_nil)))
      (pss_cons (ps_asg (pe_cl c_draw hr (by first | decide | omega) (by rfl) (pa_cons (pv 0) (pa_cons (pv 3) pa_nil))) (pg_sub (pv 6) (pe_cl c_draw hr (by first | decide | omega) (by rfl) (pa_cons (pv 0) (pa_cons (pe_callB call_len_seq (by rfl) T.z_len PySem.boot_len (pa_cons (pv 6) pa_nil)) pa_nil))) set_list))
      (pss_one (ps_ret (pe_tup (pa_cons (pv 3) (pa_cons (pe_op op_catA (pe_op op_catA (pe_slice sl_tupA (pv 4) po_none (po_some (pv 5))) (pe_tup (pa_cons (pe_callTy call_tuple_of (by rfl) T.z_tuple (by decide +kernel) (pa_cons (pv 6) pa_nil)) pa_nil))) (pe_slice sl_tupA (pv 4) (po_some (pe_op op_add (pv 5) pe_int)) po_none)) pa_nil))))))))), ?_⟩
    obtain ⟨z, tv, rfl, hZ, hT⟩ := id hM
    obtain ⟨b, tvs, rfl, hB, hR⟩ := id hT
    replace hZ : SqT K H z [vi n, .ref b] := hZ
    replace hB : SqT K H b tvs := hB
    replace hR : Paired (Nats K H) tvs ts := hR
    have lT : tvs.length = ts.length := paired_len hR
    have n6 : n ≤ 6 := mok.n6
    have n1 : 1 ≤ n := mok.n1
    have l1 := sok.l1
    have l4 := sok.l4
    have lts := mok.len
    refine ⟨.ref z, rfl, z, _, rfl, hZ, rfl, _, _, rfl, _, _, rfl, rfl, ?_⟩
    show tSeq _ _ _ [some (.ref p), some u, some (.ref z), some (vi n), some (.ref b), none, none] H
    refine do_set (do_draw (n := ts.length) (ev_var rfl) (ev_is (ev_lenT (ev_var rfl) hB) (by rw [lT])) pu (by omega) (by omega) (by omega) fun k H1 kl o1 pu1 => ?_)
    have et1 : ET K H H1 := o1.et pu
    show tSeq _ _ _ [some (.ref p), some u, some (.ref z), some (vi n), some (.ref b), some (vi k), none] H1
    have ksg : k < sg.length := by omega
    have tb := mok.tab k ksg kl
    obtain ⟨tvk, etk, ta, rfl, hta⟩ := paired_get hR (List.getElem?_eq_getElem kl)
    have p2 := sok.pl _ (List.getElem_mem ksg)
    have b36 := pow_small' n6 p2
    have tlen := tb.len
    have pos : 1 ≤ n ^ sg[k].2 := Nat.pow_pos n1
    have cell : ∀ {H' : Hp} {σ : L2.St}, ET K H H' → σ[4]? = some (some (.ref b)) → σ[5]? = some (some (vi k)) → Ev (tOp (rIxT K) (tVar 4) (tVar 5)) σ H' (.ref ta) := fun {H' σ} et h3 h4 => ev_op (ev_var h3) (ev_var h4) (rv_ixT (K := K) (et _ _ hB) (atI_vi etk))
    refine q_asgL (el_lstT (K := K) (cell et1 rfl rfl) (et1 _ _ hta)) fun l H2 nl e2 hl => ?_
    have pu2 := pu1.ex e2
    obtain ⟨lp, lc⟩ := pu1.fresh nl
    have nlH : H l = none := o1.back lp lc nl
    show tSeq _ _ _ [some (.ref p), some u, some (.ref z), some (vi n), some (.ref b), some (vi k), some (.ref l)] H2
    refine do_seq (do_asg (do_draw (n := n) (ev_var rfl) (ev_var rfl) pu2 (by omega) n1 (by omega) fun x H3 hx o3 pu3 => do_sub (do_ev (ev_var rfl) fun H4 e4 => do_draw (n := ts[k].length) (ev_var rfl) (ev_is (ev_len (K := K) (ev_var rfl) (sq_of (e4 _ _ (o3 _ _ lp lc hl)))) (by rw [List.length_map])) (pu3.ex e4) (by omega) (by omega) (by omega) fun j H5 hj o5 pu5 => ?_)))
    have hl5 : H5 l = some (.lst (ts[k].map vi)) := o5 _ _ lp lc (e4 _ _ (o3 _ _ lp lc hl))
    refine ⟨l, _, (j : Int), j, rfl, rfl, hl5, ixN_nat (by rw [List.length_map]; exact hj), ?_⟩
    have et5 : ET K H H5 := ET.trans (ET.trans (ET.trans et1 (Dw.Ex.et e2)) (o3.et pu2)) (ET.trans (Dw.Ex.et e4) (o5.et (pu3.ex e4)))
    have o05 : Off H H5 p c := (((o1.trans (.of_ex e2)).trans o3).trans (.of_ex e4)).trans o5
    have et6 : ET K H (upd H5 l (.lst ((ts[k].map vi).set j (vi x)))) := ET.trans et5 (ET.refl.upd hl5)
    have o06 : Off H (upd H5 l (.lst ((ts[k].map vi).set j (vi x)))) p c := o05.upd nlH
    have pu6 : Pur (upd H5 l (.lst ((ts[k].map vi).set j (vi x)))) p c (t + 1 + 1 + 1) := pu5.upd lp lc
    have hl6 : (upd H5 l (.lst ((ts[k].map vi).set j (vi x)))) l = some (.lst ((putAt ts[k] j x).map vi)) := by rw [upd_same, ← set_putAt hj, List.map_set]
    generalize upd H5 l (.lst ((ts[k].map vi).set j (vi x))) = H6 at *
    have pm := putAt_len (l := ts[k]) (k := j) (x := x) hj
    have hB6 : SqT K H6 b tvs := et6 _ _ hB
    have hR6 : Paired (Nats K H6) tvs ts := paired_imp (fun _ _ zz => Nats.et et6 zz) hR
    refine s_retP (ep_tup2 (K := K) (P := fun v _ => v = vi n) (R2 := fun v H' => Tabs K H' v (putAt ts k (putAt ts[k] j x))) (ep_ev (ev_var rfl) fun _ _ => rfl) (tabs_cat (tabs_cat (tabs_to (ev_var rfl) hB6 hR6 (ev_var rfl)) (tabs_one (ep_nats (K := K) (eu_tupL (K := K) (ev_var rfl) (sq_of hl6)) rfl)) (by rw [List.length_take]; show _ + 1 ≤ _; omega)) (tabs_from (ev_var rfl) hB6 hR6 (ev_addM (a := k) (b := 1) (ev_var rfl) ev_c)) (by rw [List.length_append, List.length_take, List.length_drop]; show _ + 1 + _ ≤ _; omega)) (fun v H H' e h => h) (fun v H H' e h => h.ex e)) fun rv H7 e7 ⟨r, y1, y2, ev, s, h1, h2⟩ => ?_
    subst h1
    exact q _ (putAt ts k (putAt ts[k] j x)) _ _ (o06.trans (.of_ex e7)) (pu6.ex e7) (by omega) ⟨r, y2, ev, s, h2⟩ (mdl_put mok kl fun _ => tab_put tb hj hx)
end
end K22
end
section
namespace K22
open PySem PySem.Spec PyProof.Rows L2 Evl RZ Dw M20 M25 CL LK LD
/-! ### data whose lists aren't of a set -/
mutual
inductive Dq (K : PySem.W.Frag) (S : Addr → Prop) (H : Hp) : V → PyData → Prop where
  | non : Dq K S H .non .none
  | bl (b : Bool) : Dq K S H (.bl b) (.bool b)
  | int (i : Int) : Dq K S H (.int i) (.int i)
  | str (x : Str) : Dq K S H (.str x) (.str x)
  | lst {a : Addr} {xs : List V} {ds : List PyData} (h : H a = some (.lst xs)) (hs : ¬ S a) (r : DqAll K S H xs ds) : Dq K S H (.ref a) (.list ds)
  | tup {a : Addr} {xs : List V} {ds : List PyData} (h : SqT K H a xs) (r : DqAll K S H xs ds) : Dq K S H (.ref a) (.tuple ds)
inductive DqAll (K : PySem.W.Frag) (S : Addr → Prop) (H : Hp) : List V → List PyData → Prop where
  | nil : DqAll K S H [] []
  | cons {v : V} {vs : List V} {d : PyData} {ds : List PyData} (a : Dq K S H v d) (b : DqAll K S H vs ds) : DqAll K S H (v :: vs) (d :: ds)
end
section
variable {K : PySem.W.Frag} {S S' : Addr → Prop} {H H' : Hp} {p c : Addr}
mutual
theorem Dq.keep (kp : ∀ a xs, ¬ S a → H a = some (.lst xs) → H' a = some (.lst xs)) (et : ET K H H') (le : ∀ b, S' b → S b) : ∀ {v : V} {d : PyData}, Dq K S H v d → Dq K S' H' v d
  | _, _, .non => .non
  | _, _, .bl b => .bl b
  | _, _, .int i => .int i
  | _, _, .str x => .str x
  | _, _, .lst h hs r => .lst (kp _ _ hs h) (fun z => hs (le _ z)) (DqAll.keep kp et le r)
  | _, _, .tup h r => .tup (et _ _ h) (DqAll.keep kp et le r)
theorem DqAll.keep (kp : ∀ a xs, ¬ S a → H a = some (.lst xs) → H' a = some (.lst xs)) (et : ET K H H') (le : ∀ b, S' b → S b) : ∀ {vs : List V} {ds : List PyData}, DqAll K S H vs ds → DqAll K S' H' vs ds
  | _, _, .nil => .nil
  | _, _, .cons a b => .cons (Dq.keep kp et le a) (DqAll.keep kp et le b)
end
theorem Dq.ex {v : V} {d : PyData} (e : Ex H H') (h : Dq K S H v d) : Dq K S H' v d := h.keep (fun a xs _ q => e _ _ q) (Dw.Ex.et e) (fun _ z => z)
theorem DqAll.ex {vs : List V} {ds : List PyData} (e : Ex H H') (h : DqAll K S H vs ds) : DqAll K S H' vs ds := h.keep (fun a xs _ q => e _ _ q) (Dw.Ex.et e) (fun _ z => z)
theorem Dq.mono {v : V} {d : PyData} (le : ∀ b, S' b → S b) (h : Dq K S H v d) : Dq K S' H v d := h.keep (fun a xs _ q => q) ET.refl le
theorem DqAll.mono {vs : List V} {ds : List PyData} (le : ∀ b, S' b → S b) (h : DqAll K S H vs ds) : DqAll K S' H vs ds := h.keep (fun a xs _ q => q) ET.refl le
mutual
theorem Dq.dz (hp : S p) (hc : S c) : ∀ {v : V} {d : PyData}, Dq K S H v d → Dz K p c H v d
  | _, _, .non => .non
  | _, _, .bl b => .bl b
  | _, _, .int i => .int i
  | _, _, .str x => .str x
  | _, _, .lst h hs r => .lst h (fun e => hs (e ▸ hp)) (fun e => hs (e ▸ hc)) (DqAll.dz hp hc r)
  | _, _, .tup h r => .tup h (DqAll.dz hp hc r)
theorem DqAll.dz (hp : S p) (hc : S c) : ∀ {vs : List V} {ds : List PyData}, DqAll K S H vs ds → DzAll K p c H vs ds
  | _, _, .nil => .nil
  | _, _, .cons a b => .cons (Dq.dz hp hc a) (DqAll.dz hp hc b)
end
theorem DqAll.len : ∀ {vs : List V} {ds : List PyData}, DqAll K S H vs ds → vs.length = ds.length
  | _, _, .nil => rfl
  | _, _, .cons a b => by rw [List.length_cons, List.length_cons, DqAll.len b]
theorem DqAll.snoc {v : V} {d : PyData} : ∀ {vs : List V} {ds : List PyData}, DqAll K S H vs ds → Dq K S H v d → DqAll K S H (vs ++ [v]) (ds ++ [d])
  | _, _, .nil, h => .cons h .nil
  | _, _, .cons a b, h => .cons a (DqAll.snoc b h)
theorem dq_nats : ∀ ns : List Nat, DqAll K S H (ns.map vi) (ns.map fun n => PyData.int ((n : Nat) : Int))
  | [] => .nil
  | n :: ns => .cons (.int _) (dq_nats ns)
theorem nats_dq {v : V} {ns : List Nat} (h : Nats K H v ns) : Dq K S H v (dN ns) := by
  obtain ⟨a, rfl, s⟩ := h
  exact .tup s (dq_nats ns)
end
/-! ### trees as data -/
mutual
def tD : PT Str → PyData
  | .clash nm r => .tuple [.str "clash", .str nm, dN r]
  | .case ks => .tuple [.str "case", .list (tDs ks)]
def tDs : List (PT Str) → List PyData
  | [] => []
  | t :: ts => tD t :: tDs ts
end
theorem tDs_map : ∀ ts : List (PT Str), tDs ts = ts.map tD
  | [] => by rw [tDs]; rfl
  | t :: ts => by rw [tDs, tDs_map ts]; rfl
theorem tDs_snoc (ts : List (PT Str)) (t : PT Str) : tDs (ts ++ [t]) = tDs ts ++ [tD t] := by
  rw [tDs_map, tDs_map, List.map_append]
  rfl
def wb : Nat → Nat
  | 0 => 34
  | d + 1 => 4 * (wb d + 1) + 6
/-- so many levels, few kids -/
def TL : Nat → PT Str → Prop
  | _, .clash _ _ => True
  | 0, .case _ => False
  | d + 1, .case ks => ks.length ≤ 6 ∧ ∀ t ∈ ks, TL d t
theorem TL_clash {d : Nat} {nm : Str} {r : List Nat} : TL d (.clash nm r) := by cases d <;> trivial
theorem TL_up : ∀ {d : Nat} {T : PT Str}, TL d T → TL (d + 1) T
  | _, .clash _ _, _ => TL_clash
  | 0, .case _, h => h.elim
  | d + 1, .case ks, h => ⟨h.1, fun t ht => TL_up (h.2 t ht)⟩
theorem TL_le {d e : Nat} {T : PT Str} (le : d ≤ e) (h : TL d T) : TL e T := by
  induction le with
  | refl => exact h
  | step _ ih => exact TL_up ih
/-- a tree of so many levels -/
structure TOk (d : Nat) (T : PT Str) : Prop where
  g : Gd (2 * d + 2) (wb d) (tD T)
  tl : TL d T
theorem wb_le : ∀ d : Nat, 34 ≤ wb d
  | 0 => Nat.le_refl _
  | d + 1 => by
    have := wb_le d
    rw [wb]
    omega
theorem gd_word {s : Str} (h : (PyData.str s).canLay0 = true) (l : s.cps.size ≤ 5) : Gd 0 5 (.str s) := ⟨h, by rw [PyData.depth]; exact Nat.le_refl _, by rw [PyData.weight]; exact l, by rw [PyData.intsShort], by rw [PyData.showable]⟩
theorem gd_name {nm : Str} (h : Name nm) : Gd 0 5 (.str nm) := gd_word (gd_str (name_cps h) (Nat.le_trans h.l4 (by decide))).lay (Nat.le_trans h.l4 (by decide))
theorem gd_three3 {k A B C : Nat} {a b c : PyData} (ha : Gd k A a) (hb : Gd k B b) (hc : Gd k C c) : Gd (k + 1) (A + B + C + 3) (.tuple [a, b, c]) := by
  have a1 := ha.lay
  have b1 := hb.lay
  have c1 := hc.lay
  have a2 := ha.dep
  have b2 := hb.dep
  have c2 := hc.dep
  have a3 := ha.wgt
  have b3 := hb.wgt
  have c3 := hc.wgt
  refine ⟨?_, ?_, ?_, ?_, ?_⟩
  · simp [PyData.canLay0, PyData.canLayAll0, a1, b1, c1]
  · simp only [PyData.depth, PyData.depthAll]
    omega
  · simp only [PyData.weight, PyData.weightAll]
    omega
  · simp [PyData.intsShort, PyData.intsShortAll, ha.its, hb.its, hc.its]
  · simp [PyData.showable, PyData.showableAll, ha.sho, hb.sho, hc.sho]
theorem leaf_ok {sg : List (Str × Nat)} {nm : Str} {k d : Nat} {r : List Nat} (so : SigOk sg) (mem : (nm, k) ∈ sg) (lr : r.length = k) (low : ∀ x ∈ r, x < 10) : TOk d (.clash nm r) := by
  have k2 : k ≤ 2 := so.pl _ mem
  have g3 : Gd 1 22 (dN r) := (gd_tup (k := 0) (W := 10) (L := 2) (fun x hx => by
    obtain ⟨n, hn, rfl⟩ := List.mem_map.mp hx
    exact gd_int (n := n) (by have := low n hn; omega)) (by rw [List.length_map]; omega))
  refine ⟨?_, TL_clash⟩
  rw [tD]
  have w := wb_le d
  exact (gd_three3 (k := 1) (A := 5) (B := 4) (C := 22) ((gd_word (s := "clash") (by decide +kernel) (by decide +kernel)).mono (by decide) (Nat.le_refl _)) (⟨(gd_name (so.nm _ mem)).lay, by rw [PyData.depth]; omega, by rw [PyData.weight]; exact (so.nm _ mem).l4, by rw [PyData.intsShort], by rw [PyData.showable]⟩) g3).mono (by omega) (by omega)
theorem case_ok {d : Nat} {ks : List (PT Str)} (h : ∀ t ∈ ks, TOk d t) (l : ks.length ≤ 4) : TOk (d + 1) (.case ks) := by
  refine ⟨?_, ⟨by omega, fun t ht => (h t ht).tl⟩⟩
  rw [tD, wb]
  have g1 : Gd (2 * d + 3) (4 * (wb d + 1)) (.list (tDs ks)) := gd_lst (fun x hx => by
    rw [tDs_map] at hx
    obtain ⟨t, ht, rfl⟩ := List.mem_map.mp hx
    exact (h t ht).g) (by rw [tDs_map, List.length_map]; exact l)
  have g0 : Gd (2 * d + 3) 4 (.str "case") := ⟨by decide +kernel, by rw [PyData.depth]; omega, by rw [PyData.weight]; decide +kernel, by rw [PyData.intsShort], by rw [PyData.showable]⟩
  exact (gd_pair g0 g1).mono (by omega) (by omega)
section
variable {P : Program} {w : World} {K : PySem.W.Frag} {mg : Str → Option Value} {base : Heap} {σ : L2.St} {H : Hp}
theorem do_when {tt : TT} {tu tz : TS} {D : Ends} (h : tt σ H fun b H1 => if b = true then tu { D with nx := tz D } σ H1 else tz D σ H1) : tSeq (tIfS tt tu tNext) tz D σ H := h
theorem iteF {a b : Prop} (h : b) : if false = true then a else b := h
theorem do_or {t u : TT} {Q : Bool → Hp → Prop} (h : t σ H fun c H1 => if c = true then Q true H1 else u σ H1 Q) : tOr t u σ H Q := h
/-- draws a tree costs -/
def tc : Nat → Nat
  | 0 => 4
  | d + 1 => 4 * tc d + 4
theorem tc_le : ∀ d, 4 ≤ tc d
  | 0 => Nat.le_refl _
  | d + 1 => by rw [tc]; omega
def sp_tree (K : PySem.W.Frag) (d : Nat) : Sp := fun vs H Q _ => ∃ (p c : Addr) (t n m : Nat) (u : V) (sg : List (Str × Nat)), vs = [.ref p, u, vi n, vi m, vi d] ∧ Pur H p c t ∧ t + tc d ≤ 80000 ∧ Sig K H u sg ∧ SigOk sg ∧ n ≤ 4 ∧ m ≤ n ∧ ∀ v (T : PT Str) t' H', Off H H' p c → Pur H' p c t' → t' ≤ t + tc d → (∀ S, (∀ b, S b → H b ≠ none) → Dq K S H' v (tD T)) → TOk d T → Q v H'
theorem tree_step (T : Txt mg) (D : Df K mg "_law_tree" s__law_tree ["_law_purse_here", "_law_signature_here", "_law_size", "_law_many", "_law_deep"]) (c_draw : Cl P w K mg base 1 "_law_draw" sp_draw) (c_pick : Cl P w K mg base 2 "_law_pick" (sp_pick K)) (d : Nat) (spr : Sp) (c_rec : Cl P w K mg base (d + 2) "_law_tree" spr) (hrec : ∀ e, d = e + 1 → spr = sp_tree K e) : Cl P w K mg base (d + 3) "_law_tree" (sp_tree K d) := by
  refine cl_of (k := d + 2) D sc__law_tree (fun vs H Q E h => ?_) (fun f cdv A outer s H vs Q E hr h => ?_)
  · obtain ⟨p, c, t, n, m, u, sg, rfl, _⟩ := h
    rfl
  · obtain ⟨p, c, t, n, m, u, sg, rfl, pu, tl, hG, so, n4, mn, q⟩ := h
    refine ⟨_, (pss_cons (ps_if (PW.pt (pw_or (pt_cmpR op_eq (pv 3) (pv 2) (nomark _)) (pw_or (pt_cmpR op_eq (pv 4) pe_int (nomark _)) (pw_or1 (pt_cmpR op_eq (pe_cl c_draw hr (by first | decide | omega) (by rfl) (pa_cons (pv 0) (pa_cons pe_int pa_nil))) pe_int (nomark _))))))
        (pss_cons (ps_asg (pe_cl c_pick hr (by first | decide | omega) (by rfl) (pa_cons (pv 0) (pa_cons (pv 1) pa_nil))) (pg_tup (by rfl) (pgs_cons (pg_name (i := 5) sc__law_tree.nd rfl (.inl rfl)) (pgs_cons (pg_name (i := 6) sc__law_tree.nd rfl (.inl rfl)) pgs_nil))))
        (pss_one (ps_ret (pe_tup (pa_cons pe_str (pa_cons (pv 5) (pa_cons (pe_callTy call_tuple_of (by rfl) T.z_tuple (by decide +kernel) (pa_cons (pe_lc (own := [("_law_k", 7)]) (g := (gName 7)) (by rfl) sc__law_tree.nd (pi_range1 (by rfl) T.z_range (pa_cons (pv 6) pa_nil)) (blkOk_by (own := [("_law_k", 7)]) (N := ["_law_purse_here", "_law_signature_here", "_law_size", "_law_many", "_law_deep", "_law_name", "_law_places", "_law_k"]) (sc := (defScope s__law_tree)) (by decide +kernel)) (fun _ _ _ _ _ => (pg_name (i := 7) sc__law_tree.nd rfl (.inl rfl))) (fun _ _ _ _ _ => pts_nil) (fun _ _ _ _ _ => (pe_cl c_draw hr (by first | decide | omega) (by rfl) (pa_cons (pv 0) (pa_cons (pe_callB (call_max2 rfl) (by rfl) T.z_max (by decide +kernel) (pa_cons pe_int (pa_cons (pv 3) pa_nil))) pa_nil))))) pa_nil)) pa_nil)))))))
        pss_nil)
      (pss_one (ps_ret (pe_tup (pa_cons pe_str (pa_cons (pe_lc (own := [("_law_k", 7)]) (g := (gName 7)) (by rfl) sc__law_tree.nd (pi_range1 (by rfl) T.z_range (pa_cons (pe_op op_sub (pv 2) (pv 3)) pa_nil)) (blkOk_by (own := [("_law_k", 7)]) (N := ["_law_purse_here", "_law_signature_here", "_law_size", "_law_many", "_law_deep", "_law_name", "_law_places", "_law_k"]) (sc := (defScope s__law_tree)) (by decide +kernel)) (fun _ _ _ _ _ => (pg_name (i := 7) sc__law_tree.nd rfl (.inl rfl))) (fun _ _ _ _ _ => pts_nil) (fun _ _ _ _ _ => (pe_cl c_rec hr (by first | decide | omega) (by rfl) (pa_cons (pv 0) (pa_cons (pv 1) (pa_cons (pv 2) (pa_cons (pe_op op_add (pv 3) pe_int) (pa_cons (pe_op op_sub (pv 4) pe_int) pa_nil)))))))) pa_nil)))))), ?_⟩
    obtain ⟨a, us, rfl, hS, hP⟩ := id hG
    have lS : us.length = sg.length := paired_len hP
    have s1 := so.l1
    have s4 := so.l4
    have tq : ∀ {i j : Nat} {σ : L2.St} {H1 : Hp} {x y : Nat}, σ[i]? = some (some (vi x)) → σ[j]? = some (some (vi y)) → EvT (tTest (tOp rEq (tVar i) (tVar j))) σ H1 (decide (x = y)) := fun hi hj => et_is (et_test (ev_op (ev_var hi) (ev_var hj) (rv_eq rfl))) (by rw [vi_eq])
    have t0 : ∀ {i : Nat} {σ : L2.St} {H1 : Hp} {x : Nat}, σ[i]? = some (some (vi x)) → EvT (tTest (tOp rEq (tVar i) (tC (.int 0)))) σ H1 (decide (x = 0)) := fun {i σ H1 x} hi => et_is (et_test (ev_op (ev_var hi) ev_c (rv_eq rfl))) (vi_eq (a := x) (b := 0))
    have tcd := tc_le d
    have test : ∀ Q2 : Bool → Hp → Prop, (∀ b H2 t2, Off H H2 p c → Pur H2 p c t2 → t2 ≤ t + 1 → (b = false → d ≠ 0 ∧ m ≠ n) → Q2 b H2) → tOr (tTest (tOp rEq (tVar 3) (tVar 2))) (tOr (tTest (tOp rEq (tVar 4) (tC (.int 0)))) (tTest (tOp rEq (tCall sp_draw [] E0 (tCons (tVar 0) (tCons (tC (.int 3)) tNil))) (tC (.int 0))))) [some (.ref p), some (.ref a), some (vi n), some (vi m), some (vi d), none, none, none] H Q2 := fun Q2 q2 => do_or (tq (x := m) (y := n) rfl rfl H (Ex.refl _) _ fun H1 e1 => by
      by_cases z1 : m = n
      · rw [decide_eq_true z1]
        exact q2 true H1 t (.of_ex e1) (pu.ex e1) (by omega) (fun z => by cases z)
      · rw [decide_eq_false z1]
        refine do_or (t0 (x := d) rfl H1 (Ex.refl _) _ fun H2 e2 => ?_)
        have pu2 := pu.ex (e1.trans e2)
        by_cases z2 : d = 0
        · rw [decide_eq_true z2]
          exact q2 true H2 t (.of_ex (e1.trans e2)) pu2 (by omega) (fun z => by cases z)
        · rw [decide_eq_false z2]
          refine do_test2 (do_draw (ev_var rfl) (ev_c (v := vi 3)) pu2 (by omega) (by decide) (by decide) fun k H3 hk o3 pu3 => do_ev ev_c fun H4 e4 => rv_eq rfl H4 (Ex.refl _) _ fun H5 e5 => ⟨_, rfl, ?_⟩)
          exact q2 _ H5 (t + 1) (((Off.of_ex (e1.trans e2)).trans o3).trans (.of_ex (e4.trans e5))) (pu3.ex (e4.trans e5)) (Nat.le_refl _) (fun _ => ⟨z2, z1⟩))
    refine do_when (test _ fun b H2 t2 o2 pu2 l2 hb => ?_)
    have old2 : ∀ {b : Addr}, H b ≠ none → b ≠ p → b ≠ c → H2 b ≠ none := fun {b} h h1 h2 => by
      obtain ⟨o, ho⟩ := Option.ne_none_iff_exists'.mp h
      rw [o2 _ _ h1 h2 ho]
      exact fun z => by cases z
    have hP2 : Paired (Deed K H2) us sg := paired_imp (fun _ _ z => z.et (o2.et pu)) hP
    have hS2 := o2.et pu _ _ hS
    cases b with
    | true =>
      refine iteT ?_
      refine do_setG (do_cons (do_ev (ev_var rfl) fun H3 e3 => do_cons (do_ev (ev_var rfl) fun H4 e4 => do_nil ?_)))
      have e24 := e3.trans e4
      refine ⟨p, c, a, t2, us, rfl, pu2.ex e24, by omega, .inr (ex_t e24 hS2), by omega, by omega, fun k x H5 hk o5 pu5 => ?_⟩
      obtain ⟨dd, hdd, c1, rfl, hc1⟩ := paired_at hP2 hk
      have o25 : Off H2 H5 p c := (Off.of_ex e24).trans o5
      have hc5 := o25.et pu2 _ _ hc1
      have mem : dd ∈ sg := List.mem_of_getElem? hdd
      obtain ⟨nm, pl⟩ := dd
      have pl2 : pl ≤ 2 := so.pl _ mem
      refine ⟨c1, _, rfl, hc5, rfl, _, _, rfl, _, _, rfl, rfl, ?_⟩
      show tRet _ _ [some (.ref p), some (.ref a), some (vi n), some (vi m), some (vi d), some (.str nm), some (vi pl), none] H5
      refine do_ret (do_tup (do_cons (do_ev ev_c fun H6 e6 => do_cons (do_ev (ev_var rfl) fun H7 e7 => do_cons (do_cb (do_cons ?_))))))
      have pu7 := pu5.ex (e6.trans e7)
      refine do_lcIt walk_range (fun R r => w_rng (n := pl) (ea_cons (ev_var rfl) ea_nil) (by omega) H7 (Ex.refl _) R r) (fun D i H' => H7 D = none ∧ Off H7 H' p c ∧ Pur H' p c (t2 + 1 + i) ∧ ∃ ks : List Nat, H' D = some (.lst (ks.map vi)) ∧ ks.length = i ∧ ∀ k ∈ ks, k < 10)
        (fun D H8 e8 nD => ⟨fresh_back e8 nD, .of_ex (e8.trans (Ex.new nD)), (pu7.ex (e8.trans (Ex.new nD))), [], upd_same, rfl, fun _ z => nomatch z⟩) (fun _ _ _ _ _ => trivial) (fun D i x H8 H9 hi ⟨nD, o8, pu8, ks, hks, lk, low⟩ y => ?_) (fun D H8 ⟨nD, o8, pu8, ks, hks, lk, low⟩ => ?_)
      · obtain ⟨rfl, rfl⟩ := y
        obtain ⟨Dp, Dc⟩ := pu7.fresh nD
        refine ⟨rfl, iteT (do_draw (n := max 1 m) (ev_var rfl) (ev_is (ev_max2 ev_c (ev_var rfl)) (vi_max 1 m)) pu8 (by omega) (by omega) (by omega) fun k H10 hk9 o10 pu10 => ⟨ks.map vi, o10 _ _ Dp Dc hks, sz_lt (by rw [List.length_map]; omega), nD, (o8.trans o10).upd nD, pu10.upd Dp Dc, ks ++ [k], ?_, by rw [List.length_append, lk]; rfl, fun x hx => ?_⟩)⟩
        · rw [upd_same, List.map_append]
          rfl
        · rcases List.mem_append.mp hx with z | z
          · exact low x z
          · rw [List.mem_singleton.mp z]
            omega
      · refine ⟨D, _, rfl, .inl ⟨sq_of hks, fun r nr => do_nil ⟨by show 3 ≤ sizeLine; decide, fun l nl => ?_⟩⟩⟩
        have e9 : Ex H8 (upd (upd H8 r (.tup (ks.map vi))) l (.tup [.str "clash", .str nm, .ref r])) := (Ex.new nr).trans (Ex.new nl)
        refine q _ (.clash nm ks) (t2 + 1 + pl) _ ((((o2.trans o25).trans (.of_ex (e6.trans e7))).trans o8).trans (.of_ex e9)) (pu8.ex e9) (by omega) (fun S hS => ?_) (leaf_ok so mem lk low)
        rw [tD]
        exact .tup (st_of upd_same) (.cons (.str _) (.cons (.str _) (.cons (nats_dq ⟨r, rfl, st_of (Ex.new nl _ _ upd_same)⟩) .nil)))
    | false =>
      obtain ⟨d0, mn0⟩ := hb rfl
      obtain ⟨e, rfl⟩ : ∃ e, d = e + 1 := ⟨d - 1, by omega⟩
      have := hrec e rfl
      subst this
      refine iteF ?_
      rw [tc] at tl q
      have hG2 : Sig K H2 (.ref a) sg := hG.et (o2.et pu)
      refine do_ret (do_tup (do_cons (do_ev ev_c fun H6 e6 => do_cons ?_)))
      have pu6 := pu2.ex e6
      have hG6 := hG2.ex e6
      refine do_lcIt walk_range (fun R r => w_rng (n := n - m) (ea_cons (ev_subM (ev_var rfl) (ev_var rfl) mn) ea_nil) (by omega) H6 (Ex.refl _) R r) (fun D i H' => H6 D = none ∧ Off H6 H' p c ∧ (∃ t', Pur H' p c t' ∧ t' ≤ t2 + tc e * i) ∧ ∃ (ts : List (PT Str)) (ws : List V), H' D = some (.lst ws) ∧ ts.length = i ∧ (∀ T ∈ ts, TOk e T) ∧ ∀ S, (∀ b, S b → b = D ∨ H6 b ≠ none) → DqAll K S H' ws (tDs ts))
        (fun D H8 e8 nD => ⟨fresh_back e8 nD, .of_ex (e8.trans (Ex.new nD)), ⟨t2, (pu6.ex (e8.trans (Ex.new nD))), by omega⟩, [], [], upd_same, rfl, fun _ z => (nomatch z), fun _ _ => by rw [tDs]; exact .nil⟩) (fun _ _ _ _ _ => trivial) (fun D i x H8 H9 hi ⟨nD, o8, ⟨t8, pu8, l8⟩, ts, ws, hD, lk, ok, dq⟩ y => ?_) (fun D H8 ⟨nD, o8, ⟨t8, pu8, l8⟩, ts, ws, hD, lk, ok, dq⟩ => ?_)
      · obtain ⟨rfl, rfl⟩ := y
        obtain ⟨Dp, Dc⟩ := pu6.fresh nD
        have i4 : i + 1 ≤ 4 := by omega
        have ti : tc e * i + tc e ≤ 4 * tc e := by
          have : tc e * (i + 1) ≤ tc e * 4 := Nat.mul_le_mul_left _ i4
          rw [Nat.mul_succ] at this
          omega
        refine ⟨rfl, iteT (do_cons (do_ev (ev_var rfl) fun Ha ea => do_cons (do_ev (ev_var rfl) fun Hb eb => do_cons (do_ev (ev_var rfl) fun Hc ec => do_cons (do_ev (v := vi (m + 1)) (ev_addM (ev_var rfl) (ev_c (v := vi 1))) fun Hd ed => do_cons (do_ev (v := vi e) (ev_is (ev_subM (a := e + 1) (b := 1) (ev_var rfl) (ev_c (v := vi 1)) (by omega)) rfl) fun He ee => do_nil ?_))))))⟩
        have e89 := (((ea.trans eb).trans ec).trans ed).trans ee
        have hG9 : Sig K He (.ref a) sg := (hG6.et (o8.et pu6)).ex e89
        refine ⟨p, c, t8, n, m + 1, .ref a, sg, rfl, pu8.ex e89, by omega, hG9, so, n4, by omega, fun v T' t' H10 o10 pu10 l10 dq10 ok10 => ?_⟩
        have hD10 : H10 D = some (.lst ws) := o10 _ _ Dp Dc (e89 _ _ hD)
        have o810 : Off H9 H10 p c := (Off.of_ex e89).trans o10
        refine ⟨ws, hD10, sz_lt ?_, nD, (o8.trans o810).upd nD, ⟨t', pu10.upd Dp Dc, by rw [Nat.mul_succ]; omega⟩, ts ++ [T'], ws ++ [v], upd_same, by rw [List.length_append, lk]; rfl, fun T'' h => ?_, fun S hS => ?_⟩
        · have := (dq (fun _ => False) (fun _ z => z.elim)).len
          rw [tDs_map, List.length_map] at this
          omega
        · rcases List.mem_append.mp h with z | z
          · exact ok _ z
          · rw [List.mem_singleton.mp z]
            exact ok10
        · -- what stood of the set stands still
          have occ : ∀ b, (S b ∨ b = D ∨ b = p ∨ b = c) → He b ≠ none := fun b hb => by
            have h8 : H9 b ≠ none := by
              have : b = D ∨ b = p ∨ b = c ∨ H6 b ≠ none := by
                rcases hb with z | z | z | z
                · rcases hS b z with y | y
                  · exact .inl y
                  · exact .inr (.inr (.inr y))
                · exact .inl z
                · exact .inr (.inl z)
                · exact .inr (.inr (.inl z))
              rcases this with rfl | rfl | rfl | h
              · rw [hD]; exact fun z => by cases z
              · rw [pu8.1]; exact fun z => by cases z
              · obtain ⟨cs, _, _, hcs⟩ := pu8.2
                rw [hcs]; exact fun z => by cases z
              · by_cases z1 : b = p
                · rw [z1, pu8.1]; exact fun z => by cases z
                · by_cases z2 : b = c
                  · obtain ⟨cs, _, _, hcs⟩ := pu8.2
                    rw [z2, hcs]; exact fun z => by cases z
                  · obtain ⟨o, ho⟩ := Option.ne_none_iff_exists'.mp h
                    rw [o8 _ _ z1 z2 ho]
                    exact fun z => by cases z
            obtain ⟨o, ho⟩ := Option.ne_none_iff_exists'.mp h8
            rw [e89 _ _ ho]
            exact fun z => by cases z
          have new := dq10 (fun b => S b ∨ b = D ∨ b = p ∨ b = c) occ
          have was := dq (fun b => S b ∨ b = D ∨ b = p ∨ b = c) (fun b hb => by
            rcases hb with z | z | z | z
            · exact hS b z
            · exact .inl z
            · refine .inr ?_
              rw [z, pu6.1]
              exact fun z => by cases z
            · refine .inr ?_
              obtain ⟨cs, _, _, hcs⟩ := pu6.2
              rw [z, hcs]
              exact fun z => by cases z)
          have etD : ET K H10 (upd H10 D (.lst (ws ++ [v]))) := ET.refl.upd hD10
          rw [tDs_snoc]
          refine DqAll.snoc (was.keep (fun b xs nb hx => ?_) (ET.trans (o810.et pu8) etD) (fun b z => Or.inl z)) (new.keep (fun b xs nb hx => ?_) etD (fun b z => Or.inl z))
          · have n1 : b ≠ D := fun z => nb (.inr (.inl z))
            have n2 : b ≠ p := fun z => nb (.inr (.inr (.inl z)))
            have n3 : b ≠ c := fun z => nb (.inr (.inr (.inr z)))
            rw [upd_ne n1]
            exact o810 _ _ n2 n3 hx
          · have n1 : b ≠ D := fun z => nb (.inr (.inl z))
            rw [upd_ne n1]
            exact hx
      · refine do_nil ⟨by show 2 ≤ sizeLine; decide, fun l nl => ?_⟩
        have e9 : Ex H8 (upd H8 l (.tup [.str "case", .ref D])) := Ex.new nl
        have lts : ts.length ≤ 4 := by omega
        refine q _ (.case ts) t8 _ (((o2.trans (.of_ex e6)).trans o8).trans (.of_ex e9)) (pu8.ex e9) ?_ (fun S hS => ?_) (case_ok ok lts)
        · have : tc e * (n - m) ≤ tc e * 4 := Nat.mul_le_mul_left _ (by omega)
          omega
        · rw [tD]
          have occ6 : ∀ b, S b → H6 b ≠ none := fun b hb => by
            have h0 := hS b hb
            have h2 : H2 b ≠ none := by
              by_cases z1 : b = p
              · rw [z1, pu2.1]; exact fun z => by cases z
              · by_cases z2 : b = c
                · obtain ⟨cs, _, _, hcs⟩ := pu2.2
                  rw [z2, hcs]; exact fun z => by cases z
                · exact old2 h0 z1 z2
            obtain ⟨o, ho⟩ := Option.ne_none_iff_exists'.mp h2
            rw [e6 _ _ ho]
            exact fun z => by cases z
          exact .tup (st_of upd_same) (.cons (.str _) (.cons (.lst (e9 _ _ hD) (fun z => occ6 D z nD) ((dq S fun b hb => .inr (occ6 b hb)).ex e9)) .nil))
theorem c_tree (T : Txt mg) (D : Df K mg "_law_tree" s__law_tree ["_law_purse_here", "_law_signature_here", "_law_size", "_law_many", "_law_deep"]) (c_draw : Cl P w K mg base 1 "_law_draw" sp_draw) (c_pick : Cl P w K mg base 2 "_law_pick" (sp_pick K)) : ∀ d : Nat, Cl P w K mg base (d + 3) "_law_tree" (sp_tree K d)
  | 0 => tree_step T D c_draw c_pick 0 (fun _ _ _ _ => False) (cl_of (k := 1) D sc__law_tree (fun vs H Q E h => h.elim) (fun f cdv A outer s H vs Q E hr h => h.elim)) (fun e h => by omega)
  | d + 1 => tree_step T D c_draw c_pick (d + 1) (sp_tree K d) (c_tree T D c_draw c_pick d) (fun e h => by
      have : d = e := by omega
      rw [this])
end
end K22
end
section
namespace K22
open PySem PySem.Spec PyProof.Rows L2 Evl RZ Dw M20 M25 CL LK LD
theorem DqAll.app {K : PySem.W.Frag} {S : Addr → Prop} {H : Hp} : ∀ {vs us : List V} {ds es : List PyData}, DqAll K S H vs ds → DqAll K S H us es → DqAll K S H (vs ++ us) (ds ++ es)
  | _, _, _, _, .nil, h => h
  | _, _, _, _, .cons a b, h => .cons a (DqAll.app b h)
theorem dq_rep {K : PySem.W.Frag} {S : Addr → Prop} {H : Hp} {v : V} {d : PyData} (h : Dq K S H v d) : ∀ k, DqAll K S H (List.replicate k v) (List.replicate k d)
  | 0 => .nil
  | k + 1 => .cons h (dq_rep h k)
/-! ### data that avoid all sets of a family -/
abbrev Fam := (Addr → Prop) → Prop
def Aq (K : PySem.W.Frag) (F : Fam) (H : Hp) (v : V) (d : PyData) : Prop := ∀ S, F S → Dq K S H v d
def AqAll (K : PySem.W.Frag) (F : Fam) (H : Hp) (vs : List V) (ds : List PyData) : Prop := ∀ S, F S → DqAll K S H vs ds
/-- the family's addresses stand -/
def Dm (F : Fam) (H : Hp) : Prop := ∀ S, F S → ∀ b, S b → H b ≠ none
def PC (F : Fam) (p c : Addr) : Prop := ∀ S, F S → S p ∧ S c
section
variable {K : PySem.W.Frag} {F : Fam} {σ : L2.St} {H H' : Hp} {p c : Addr} {t t' : Nat} {ta : TA} {te tb : TE} {v : V} {d : PyData} {ds es : List PyData} {g : PyData → Prop}
theorem Aq.ex (e : Ex H H') (h : Aq K F H v d) : Aq K F H' v d := fun S hS => (h S hS).ex e
theorem AqAll.ex {vs : List V} (e : Ex H H') (h : AqAll K F H vs ds) : AqAll K F H' vs ds := fun S hS => (h S hS).ex e
theorem Dm.ex (e : Ex H H') (h : Dm F H) : Dm F H' := fun S hS b hb => by
  obtain ⟨o, ho⟩ := Option.ne_none_iff_exists'.mp (h S hS b hb)
  rw [e _ _ ho]
  exact fun z => by cases z
theorem Dm.off (pu : Pur H' p c t) (o : Off H H' p c) (h : Dm F H) : Dm F H' := fun S hS b hb => by
  by_cases z1 : b = p
  · rw [z1, pu.1]; exact fun z => by cases z
  · by_cases z2 : b = c
    · obtain ⟨cs, _, _, hcs⟩ := pu.2
      rw [z2, hcs]; exact fun z => by cases z
    · obtain ⟨ob, ho⟩ := Option.ne_none_iff_exists'.mp (h S hS b hb)
      rw [o _ _ z1 z2 ho]
      exact fun z => by cases z
theorem Aq.off (pc : PC F p c) (pu : Pur H p c t) (o : Off H H' p c) (h : Aq K F H v d) : Aq K F H' v d := fun S hS => (h S hS).keep (fun a xs n q => o a _ (fun z => n (z ▸ (pc S hS).1)) (fun z => n (z ▸ (pc S hS).2)) q) (o.et pu) (fun _ z => z)
theorem AqAll.off {vs : List V} (pc : PC F p c) (pu : Pur H p c t) (o : Off H H' p c) (h : AqAll K F H vs ds) : AqAll K F H' vs ds := fun S hS => (h S hS).keep (fun a xs n q => o a _ (fun z => n (z ▸ (pc S hS).1)) (fun z => n (z ▸ (pc S hS).2)) q) (o.et pu) (fun _ z => z)
def AqP (K : PySem.W.Frag) (F : Fam) (g : PyData → Prop) (v : V) (H : Hp) : Prop := ∃ d, g d ∧ Aq K F H v d
theorem AqP.st : ∀ v H H', Ex H H' → AqP K F g v H → AqP K F g v H' := fun _ _ _ e ⟨d, a, b⟩ => ⟨d, a, b.ex e⟩
theorem AqP.off (pc : PC F p c) (pu : Pur H p c t) (o : Off H H' p c) (h : AqP K F g v H) : AqP K F g v H' := let ⟨d, a, b⟩ := h; ⟨d, a, b.off pc pu o⟩
def TQ (K : PySem.W.Frag) (F : Fam) (ds : List PyData) (v : V) (H : Hp) : Prop := ∃ xs, TV K H v xs ∧ AqAll K F H xs ds ∧ xs.length = ds.length
theorem TQ.ex (e : Ex H H') (h : TQ K F ds v H) : TQ K F ds v H' := let ⟨xs, a, b, l⟩ := h; ⟨xs, a.ex e, b.ex e, l⟩
theorem TQ.aq (h : TQ K F ds v H) : Aq K F H v (.tuple ds) := by
  obtain ⟨xs, ⟨a, rfl, s⟩, b, _⟩ := h
  exact fun S hS => .tup s (b S hS)
theorem tq_ev (h : Ev te σ H v) (t : TQ K F ds v H) : EvP te σ H (TQ K F ds) := ep_ev h fun _ e => t.ex e
theorem tq_aq (h : EvP te σ H (TQ K F ds)) : EvP te σ H (fun v H' => Aq K F H' v (.tuple ds)) := h.imp fun _ _ _ z => z.aq
theorem tq_cat (ha : EvP te σ H (TQ K F ds)) (hb : EvP tb σ H (TQ K F es)) (hl : ds.length + es.length ≤ 100000) : EvP (tOp (rCatA K) te tb) σ H (TQ K F (ds ++ es)) := fun H1 e1 Q q =>
  do_op (ha H1 e1 _ fun v H2 e2 hv => hb H2 (e1.trans e2) _ fun u H3 e3 hu => by
    obtain ⟨xs, ⟨a, rfl, sa⟩, za, la⟩ := hv.ex e3
    obtain ⟨ys, ⟨b, rfl, sb⟩, zb, lb⟩ := hu
    have app : ∀ {H4 : Hp}, Ex H3 H4 → AqAll K F H4 (xs ++ ys) (ds ++ es) := fun e S hS => DqAll.app ((za S hS).ex e) ((zb S hS).ex e)
    have ll : (xs ++ ys).length = (ds ++ es).length := by rw [List.length_append, List.length_append, la, lb]
    refine ⟨a, b, xs, ys, rfl, rfl, sa, sb, sz_of (by omega), fun z => ?_, fun _ z => ?_, fun _ _ p np => ?_⟩
    · subst z
      exact q _ H3 (e2.trans e3) ⟨_, ⟨b, rfl, sb⟩, app (Ex.refl _), ll⟩
    · subst z
      exact q _ H3 (e2.trans e3) ⟨_, ⟨a, rfl, by rw [List.append_nil]; exact sa⟩, app (Ex.refl _), ll⟩
    · exact q _ _ ((e2.trans e3).trans (Ex.new np)) ⟨_, ⟨p, rfl, st_of upd_same⟩, app (Ex.new np), ll⟩)
def EvQs (K : PySem.W.Frag) (F : Fam) (ds : List PyData) (ta : TA) (σ : L2.St) (H : Hp) : Prop := Dw.EvAP ta σ H (fun vs H' => AqAll K F H' vs ds ∧ vs.length = ds.length)
theorem eqs_nil : EvQs K F [] tNil σ H := fun H1 _ Q q => q [] H1 (Ex.refl _) ⟨fun _ _ => .nil, rfl⟩
theorem eqs_cons (h : EvP te σ H (fun v H' => Aq K F H' v d)) (hr : EvQs K F ds ta σ H) : EvQs K F (d :: ds) (tCons te ta) σ H := fun H1 e Q q => do_cons (h H1 e _ fun v H2 e2 hv => hr H2 (e.trans e2) _ fun vs H3 e3 hvs => q _ H3 (e2.trans e3) ⟨fun S hS => .cons ((hv S hS).ex e3) (hvs.1 S hS), by rw [List.length_cons, List.length_cons, hvs.2]⟩)
theorem tq_tup (h : EvQs K F ds ta σ H) (l : ds.length ≤ 100000) : EvP (tTup ta) σ H (TQ K F ds) := fun H1 e Q q => do_tup (h H1 e _ fun vs H2 e2 hvs => ⟨sz_of (by rw [hvs.2]; exact l), fun a na => q _ _ (e2.trans (Ex.new na)) ⟨vs, ⟨a, rfl, st_of upd_same⟩, hvs.1.ex (Ex.new na), hvs.2⟩⟩)
theorem aq_tup (h : EvQs K F ds ta σ H) (l : ds.length ≤ 100000) : EvP (tTup ta) σ H (fun v H' => Aq K F H' v (.tuple ds)) := tq_aq (tq_tup h l)
theorem aq_lst (h : EvQs K F ds ta σ H) (l : ds.length ≤ 100000) (dm : Dm F H) : EvP (tLst ta) σ H (fun v H' => Aq K F H' v (.list ds)) := fun H1 e Q q => do_lst (h H1 e _ fun vs H2 e2 hvs => ⟨sz_of (by rw [hvs.2]; exact l), fun a na => q _ _ (e2.trans (Ex.new na)) fun S hS => .lst upd_same (fun z => dm.ex (e.trans e2) S hS a z na) ((hvs.1 S hS).ex (Ex.new na))⟩)
theorem aq_list (h : Ev te σ H v) (z : TQ K F ds v H) (dm : Dm F H) : EvP (tCB (rListS K) (tCons te tNil)) σ H (fun v H' => Aq K F H' v (.list ds)) := fun H1 e Q q => by
  obtain ⟨xs, ⟨a, rfl, s⟩, b, l⟩ := z
  exact el_listT (K := K) h s H1 e _ fun l H2 nl e2 hl => q _ H2 e2 fun S hS => .lst hl (fun z => dm.ex e S hS l z nl) ((b S hS).ex (e.trans e2))
theorem aq_ev (h : Ev te σ H v) (z : Aq K F H v d) : EvP te σ H (fun v H' => Aq K F H' v d) := ep_ev h fun _ e => z.ex e
theorem aq_int {i : Int} (h : Ev te σ H (.int i)) : EvP te σ H (fun v H' => Aq K F H' v (.int i)) := ep_ev h fun _ _ _ _ => .int i
theorem aq_bl {b : Bool} (h : Ev te σ H (.bl b)) : EvP te σ H (fun v H' => Aq K F H' v (.bool b)) := ep_ev h fun _ _ _ _ => .bl b
theorem aq_str {x : Str} (h : Ev te σ H (.str x)) : EvP te σ H (fun v H' => Aq K F H' v (.str x)) := ep_ev h fun _ _ _ _ => .str x
theorem aq_non (h : Ev te σ H .non) : EvP te σ H (fun v H' => Aq K F H' v .none) := ep_ev h fun _ _ _ _ => .non
/-- (0,) * k -/
theorem aq_zeros {tk : TE} {k : Int} (k0 : 0 ≤ k) (k9 : k ≤ 6) (hk : Ev tk σ H (.int k)) : EvP (tOp (rRepTE K) (tTup (tCons (tC (.int 0)) tNil)) tk) σ H (fun v H' => Aq K F H' v (.tuple (List.replicate k.toNat (.int 0)))) := fun H1 e Q q =>
  do_op (eu_tup (vs := [.int 0]) (ea_cons ev_c ea_nil) (by show 1 ≤ 100000; decide) H1 e _ fun a H2 na e2 ha => hk H2 (e.trans e2) _ fun H3 e3 => by
    refine .inl ⟨a, k, [.int 0], rfl, rfl, st_of (e3 _ _ ha), (by intro z; cases z), by omega, by omega, by show 1 ≤ 1000; decide, fun h b nb => ?_, fun h => ?_, fun h b nb => ?_⟩
    · have : k = 0 := by omega
      subst this
      exact q _ _ ((e2.trans e3).trans (Ex.new nb)) fun S hS => .tup (st_of upd_same) .nil
    · subst h
      exact q _ _ (e2.trans e3) fun S hS => .tup (st_of (e3 _ _ ha)) (.cons (.int 0) .nil)
    · refine q _ _ ((e2.trans e3).trans (Ex.new nb)) fun S hS => .tup (st_of upd_same) ?_
      rw [rep1]
      exact dq_rep (.int 0) _)
end
end K22
end
section
namespace K22
open PySem PySem.Spec PyProof.Rows L2 Evl RZ Dw M20 M25 CL LK LD
theorem gd_tl {k W : Nat} {ds : List PyData} (g : Gd k W (.tuple ds)) : Gd k W (.list ds) := by
  have a := g.lay
  have b := g.dep
  have c := g.wgt
  have d := g.its
  have e := g.sho
  rw [PyData.canLay0] at a
  rw [PyData.depth] at b
  rw [PyData.weight] at c
  rw [PyData.intsShort] at d
  rw [PyData.showable] at e
  exact ⟨by rw [PyData.canLay0]; exact a, by rw [PyData.depth]; exact b, by rw [PyData.weight]; exact c, by rw [PyData.intsShort]; exact d, by rw [PyData.showable]; exact e⟩
theorem gd_non {k W : Nat} : Gd k W .none := ⟨by rw [PyData.canLay0], by rw [PyData.depth]; omega, by rw [PyData.weight]; omega, by rw [PyData.intsShort], by rw [PyData.showable]⟩
theorem gd_bo {k W : Nat} (b : Bool) : Gd k W (.bool b) := ⟨by rw [PyData.canLay0], by rw [PyData.depth]; omega, by rw [PyData.weight]; omega, by rw [PyData.intsShort], by rw [PyData.showable]⟩
/-- the truth for nought and one -/
def trd (n : Nat) : PyData := if n < 2 then .bool (decide (n = 1)) else .int ((n : Nat) : Int)
def trv (n : Nat) : V := if n < 2 then .bl (decide (n = 1)) else vi n
theorem gd_truths {k W : Nat} {r : List Nat} (g : Gd k W (dN r)) : Gd k W (.tuple (r.map trd)) := by
  have a := g.lay
  have b := g.dep
  have c := g.wgt
  have d := g.its
  have e := g.sho
  unfold dN at a b c d e
  rw [PyData.canLay0] at a
  rw [PyData.depth] at b
  rw [PyData.weight] at c
  rw [PyData.intsShort] at d
  rw [PyData.showable] at e
  have all : ∀ ns : List Nat, PyData.canLayAll0 (ns.map fun n => PyData.int ((n : Nat) : Int)) = true → PyData.intsShortAll 13 (ns.map fun n => PyData.int ((n : Nat) : Int)) = true → PyData.showableAll (ns.map fun n => PyData.int ((n : Nat) : Int)) = true → PyData.canLayAll0 (ns.map trd) = true ∧ PyData.depthAll (ns.map trd) ≤ PyData.depthAll (ns.map fun n => PyData.int ((n : Nat) : Int)) ∧ PyData.weightAll (ns.map trd) ≤ PyData.weightAll (ns.map fun n => PyData.int ((n : Nat) : Int)) ∧ PyData.intsShortAll 13 (ns.map trd) = true ∧ PyData.showableAll (ns.map trd) = true := fun ns => by
    induction ns with
    | nil => exact fun h1 h2 h3 => ⟨h1, Nat.le_refl _, Nat.le_refl _, h2, h3⟩
    | cons n ns ih =>
      intro h1 h2 h3
      rw [List.map_cons] at h1 h2 h3 ⊢
      rw [List.map_cons]
      rw [PyData.canLayAll0, Bool.and_eq_true] at h1
      rw [PyData.intsShortAll, Bool.and_eq_true] at h2
      rw [PyData.showableAll, Bool.and_eq_true] at h3
      obtain ⟨i1, i2, i3, i4, i5⟩ := ih h1.2 h2.2 h3.2
      unfold trd
      rw [PyData.canLayAll0, PyData.depthAll, PyData.depthAll, PyData.weightAll, PyData.weightAll, PyData.intsShortAll, PyData.showableAll]
      split
      · refine ⟨by rw [PyData.canLay0]; exact i1, ?_, ?_, by rw [PyData.intsShort]; exact i4, by rw [PyData.showable]; exact i5⟩
        · simp only [PyData.depth]
          exact Nat.max_le.mpr ⟨Nat.zero_le _, Nat.le_trans i2 (Nat.le_max_right _ _)⟩
        · have hb : (PyData.bool (decide (n = 1))).weight = 0 := by rw [PyData.weight]
          rw [hb]
          exact Nat.add_le_add (by omega) i3
      · refine ⟨by rw [h1.1]; exact i1, ?_, ?_, by rw [h2.1]; exact i4, by rw [h3.1]; exact i5⟩
        · exact Nat.max_le.mpr ⟨Nat.le_max_left _ _, Nat.le_trans i2 (Nat.le_max_right _ _)⟩
        · have : PyData.weightAll (List.map (fun n : Nat => if n < 2 then PyData.bool (decide (n = 1)) else PyData.int ((n : Nat) : Int)) ns) = PyData.weightAll (ns.map trd) := rfl
          omega
  obtain ⟨i1, i2, i3, i4, i5⟩ := all r a d e
  exact ⟨by rw [PyData.canLay0]; exact i1, by rw [PyData.depth]; omega, by rw [PyData.weight]; omega, by rw [PyData.intsShort]; exact i4, by rw [PyData.showable]; exact i5⟩
theorem gd_more {k W : Nat} {ds : List PyData} {d : PyData} (g : Gd (k + 1) W (.tuple ds)) (h : Gd k 0 d) : Gd (k + 1) (W + 1) (.tuple (ds ++ [d])) := by
  have a := g.lay
  have b := g.dep
  have c := g.wgt
  have e := g.its
  have f := g.sho
  rw [PyData.canLay0] at a
  rw [PyData.depth] at b
  rw [PyData.weight] at c
  rw [PyData.intsShort] at e
  rw [PyData.showable] at f
  have all : ∀ xs : List PyData, PyData.canLayAll0 xs = true → PyData.depthAll xs ≤ k → PyData.intsShortAll 13 xs = true → PyData.showableAll xs = true → PyData.canLayAll0 (xs ++ [d]) = true ∧ PyData.depthAll (xs ++ [d]) ≤ k ∧ PyData.weightAll (xs ++ [d]) ≤ PyData.weightAll xs + 1 ∧ PyData.intsShortAll 13 (xs ++ [d]) = true ∧ PyData.showableAll (xs ++ [d]) = true := fun xs => by
    have hw := h.wgt
    have hd := h.dep
    induction xs with
    | nil =>
      intro _ _ _ _
      simp [PyData.canLayAll0, PyData.depthAll, PyData.weightAll, PyData.intsShortAll, PyData.showableAll, h.lay, h.its, h.sho]
      omega
    | cons x xs ih =>
      intro h1 h2 h3 h4
      rw [PyData.canLayAll0, Bool.and_eq_true] at h1
      rw [PyData.depthAll] at h2
      rw [PyData.intsShortAll, Bool.and_eq_true] at h3
      rw [PyData.showableAll, Bool.and_eq_true] at h4
      obtain ⟨i1, i2, i3, i4, i5⟩ := ih h1.2 (by omega) h3.2 h4.2
      rw [List.cons_append, PyData.canLayAll0, PyData.depthAll, PyData.weightAll, PyData.weightAll, PyData.intsShortAll, PyData.showableAll, h1.1, h3.1, h4.1, i1, i4, i5]
      exact ⟨rfl, by omega, by omega, rfl, rfl⟩
  obtain ⟨i1, i2, i3, i4, i5⟩ := all ds a (by omega) e f
  exact ⟨by rw [PyData.canLay0]; exact i1, by rw [PyData.depth]; omega, by rw [PyData.weight]; omega, by rw [PyData.intsShort]; exact i4, by rw [PyData.showable]; exact i5⟩
section
variable {P : Program} {w : World} {K : PySem.W.Frag} {mg : Str → Option Value} {base : Heap}
def sp_odd_ones (K : PySem.W.Frag) : Sp := fun vs H Q _ => ∃ (p c : Addr) (t k W : Nat) (u y : V) (sg : List (Str × Nat)) (T : PT Str) (F : Fam), vs = [.ref p, u, y] ∧ Pur H p c t ∧ t ≤ 80000 ∧ Sig K H u sg ∧ SigOk sg ∧ Aq K F H y (tD T) ∧ Dm F H ∧ PC F p c ∧ (∃ S, F = fun S' => S' = S) ∧ Gd (k + 1) W (tD T) ∧ W ≤ 20000 ∧ ∀ v n H', Off H H' p c → Pur H' p c (t + 1) → 1 ≤ n → n ≤ 9 → LsR (AqP K F (Gd (k + 5) (2 * W + 600))) p c n v H' → Q v H'
theorem c_odd_ones (T : Txt mg) (D : Df K mg "_law_odd_ones" s__law_odd_ones ["_law_purse_here", "_law_signature_here", "_law_tree_here"]) (c_pick : Cl P w K mg base 2 "_law_pick" (sp_pick K)) : Cl P w K mg base 3 "_law_odd_ones" (sp_odd_ones K) := by
  refine cl_of (k := 2) D sc__law_odd_ones (fun vs H Q E h => ?_) (fun f cdv A outer s H vs Q E hr h => ?_)
  · obtain ⟨p, c, t, k, W, u, y, sg, T', F, rfl, _⟩ := h
    rfl
  · obtain ⟨p, c, t, k, W, u, y, sg, T', F, rfl, pu, tl, hG, so, hy, dm, pc, ⟨S0, hF0⟩, g, hW, q⟩ := h
    refine ⟨_, (pss_cons (ps_asg (pe_cl c_pick hr (by first | decide | omega) (by rfl) (pa_cons (pv 0) (pa_cons (pv 1) pa_nil))) (pg_tup (by rfl) (pgs_cons (pg_name (i := 3) sc__law_odd_ones.nd rfl (.inl rfl)) (pgs_cons (pg_name (i := 4) sc__law_odd_ones.nd rfl (.inl rfl)) pgs_nil))))
      (pss_cons (ps_set (i := 5) sc__law_odd_ones.nd rfl (.inl rfl) (pe_lst (pa_cons (pe_tup (pa_cons pe_str (pa_cons (pv 3) (pa_cons (pe_op op_repTE (pe_tup (pa_cons pe_int pa_nil)) (pe_op op_add (pv 4) pe_int)) pa_nil)))) (pa_cons (pe_tup (pa_cons pe_str (pa_cons (pv 3) (pa_cons (pe_op op_repTE (pe_tup (pa_cons pe_int pa_nil)) (pe_callB (call_max2 rfl) (by rfl) T.z_max (by decide +kernel) (pa_cons pe_int (pa_cons (pe_op op_sub (pv 4) pe_int) pa_nil)))) pa_nil)))) (pa_cons (pe_tup (pa_cons pe_str (pa_cons pe_non (pa_cons (pe_tup pa_nil) pa_nil)))) pa_nil)))))
      (pss_cons (ps_set (i := 5) sc__law_odd_ones.nd rfl (.inl rfl) (pe_op op_cat (pv 5) (pe_lst (pa_cons (pe_tup (pa_cons pe_str (pa_cons pe_str (pa_cons (pe_tup (pa_cons pe_non (pa_cons pe_str pa_nil))) pa_nil)))) (pa_cons (pe_tup (pa_cons pe_str (pa_cons (pe_lst (pa_cons pe_str pa_nil)) (pa_cons (pe_tup (pa_cons pe_int (pa_cons pe_int pa_nil))) pa_nil)))) pa_nil)))))
      (pss_cut (ps_if (PW.pt (pw_and (pt_val (pe_callB call_isi (by rfl) T.z_isinstance (by decide +kernel) (pa_cons (pv 2) (pa_cons (pe_ty "tuple" (by rfl) T.z_tuple (by decide +kernel)) pa_nil)))) (pw_and1 (pt_cmpR op_eq (pe_callB call_len_seq (by rfl) T.z_len PySem.boot_len (pa_cons (pv 2) pa_nil)) pe_int (nomark _)))))
        (pss_cons (ps_set (i := 6) sc__law_odd_ones.nd rfl (.inl rfl) (pe_callTy call_tuple_of (by rfl) T.z_tuple (by decide +kernel) (pa_cons (pe_lc (own := [("_law_number", 7)]) (g := (gName 7)) (by rfl) sc__law_odd_ones.nd (pi_tup (pe_ix ix_tup (pv 2) pe_int (fun _ _ => rfl))) (blkOk_by (own := [("_law_number", 7)]) (N := ["_law_purse_here", "_law_signature_here", "_law_tree_here", "_law_name", "_law_places", "_law_odd", "_law_truths", "_law_number"]) (sc := (defScope s__law_odd_ones)) (by decide +kernel)) (fun _ _ _ _ _ => (pg_name (i := 7) sc__law_odd_ones.nd rfl (.inl rfl))) (fun _ _ _ _ _ => pts_nil) (fun _ _ _ _ _ => (pe_ix (ix_listK K) (pe_lst (pa_cons (pv 7) (pa_cons (pe_cmpR op_eq (pv 7) pe_int (nomark _)) pa_nil))) (pe_callTy call_int1 (by rfl) T.z_int (by decide +kernel) (pa_cons (pe_cmpR op_lt (pv 7) pe_int (nomark _)) pa_nil)) (fun _ _ => rfl)))) pa_nil)))
        (pss_one (ps_set (i := 5) sc__law_odd_ones.nd rfl (.inl rfl) (pe_op op_cat (pv 5) (pe_lst (pa_cons (pe_callTy call_list_of (by rfl) T.z_list (by decide +kernel) (pa_cons (pv 2) pa_nil)) (pa_cons (pe_op op_catA (pv 2) (pe_tup (pa_cons pe_non pa_nil))) (pa_cons (pe_tup (pa_cons (pe_ix ix_tup (pv 2) pe_int (fun _ _ => rfl)) (pa_cons (pe_ix ix_tup (pv 2) pe_int (fun _ _ => rfl)) (pa_cons (pe_callTy call_list_of (by rfl) T.z_list (by decide +kernel) (pa_cons (pe_ix ix_tup (pv 2) pe_int (fun _ _ => rfl)) pa_nil)) pa_nil)))) (pa_cons (pe_tup (pa_cons (pe_ix ix_tup (pv 2) pe_int (fun _ _ => rfl)) (pa_cons (pe_ix ix_tup (pv 2) pe_int (fun _ _ => rfl)) (pa_cons (pv 6) pa_nil)))) pa_nil)))))))))
        pss_nil)
      (pss_one (ps_ret (pv 5))))))), ?_⟩
    obtain ⟨a, us, rfl, hS, hP⟩ := id hG
    have lS : us.length = sg.length := paired_len hP
    have s1 := so.l1
    have s4 := so.l4
    refine do_setG (do_cons (do_ev (ev_var rfl) fun H3 e3 => do_cons (do_ev (ev_var rfl) fun H4 e4 => do_nil ?_)))
    have e24 := e3.trans e4
    refine ⟨p, c, a, t, us, rfl, pu.ex e24, by omega, .inr (ex_t e24 hS), by omega, by omega, fun kk x H5 hk o5 pu5 => ?_⟩
    have hP4 : Paired (Deed K H4) us sg := paired_imp (fun _ _ z => z.et (Dw.Ex.et e24)) hP
    obtain ⟨dd, hdd, c1, rfl, hc1⟩ := paired_at hP4 hk
    have o25 : Off H H5 p c := (Off.of_ex e24).trans o5
    have hc5 := o5.et (pu.ex e24) _ _ hc1
    have mem : dd ∈ sg := List.mem_of_getElem? hdd
    obtain ⟨nm, pl⟩ := dd
    have pl2 : pl ≤ 2 := so.pl _ mem
    have dm5 : Dm F H5 := dm.off pu5 o25
    have hy5 : Aq K F H5 y (tD T') := hy.off pc pu o25
    refine ⟨c1, _, rfl, hc5, rfl, _, _, rfl, _, _, rfl, rfl, ?_⟩
    show tSeq _ _ _ [some (.ref p), some (.ref a), some y, some (.str nm), some (vi pl), none, none, none] H5
    have gcl : ∀ k', Gd k' 5 (.str "clash") := fun k' => (gd_word (s := "clash") (by decide +kernel) (by decide +kernel)).mono (Nat.zero_le _) (Nat.le_refl _)
    have gm : ∀ k', Gd k' 5 (.str "m") := fun k' => (gd_word (s := "m") (by decide +kernel) (by decide +kernel)).mono (Nat.zero_le _) (Nat.le_refl _)
    have gnm : ∀ k', Gd k' 5 (.str nm) := fun k' => (gd_name (so.nm _ mem)).mono (Nat.zero_le _) (Nat.le_refl _)
    have gz : ∀ k', Gd k' 10 (.int 0) := fun k' => (gd_int (n := 0) (by decide)).mono (Nat.zero_le _) (Nat.le_refl _)
    have grp : ∀ n : Nat, n ≤ 3 → Gd 1 33 (.tuple (List.replicate n (.int 0))) := fun n hn => gd_tup (k := 0) (W := 10) (L := 3) (fun d hd => by rw [(List.mem_replicate.mp hd).2]; exact gz 0) (by rw [List.length_replicate]; exact hn)
    have k1 : ∀ {σ : L2.St} {H6 : Hp} {te : TE} {d : PyData}, EvP te σ H6 (fun v H' => Aq K F H' v d) → Gd (k + 5) (2 * W + 600) d → EvP te σ H6 (AqP K F (Gd (k + 5) (2 * W + 600))) := fun h b => h.imp fun _ _ _ z => ⟨_, b, z⟩
    have three : ∀ {σ : L2.St} {H6 : Hp} {ta tb tc : TE} {a b c : PyData}, EvP ta σ H6 (fun v H' => Aq K F H' v a) → EvP tb σ H6 (fun v H' => Aq K F H' v b) → EvP tc σ H6 (fun v H' => Aq K F H' v c) → EvP (tTup (tCons ta (tCons tb (tCons tc tNil)))) σ H6 (fun v H' => Aq K F H' v (.tuple [a, b, c])) := fun h1 h2 h3 => aq_tup (eqs_cons h1 (eqs_cons h2 (eqs_cons h3 eqs_nil))) (by show 3 ≤ 100000; decide)
    refine q_asgP (P := LsR (AqP K F (Gd (k + 5) (2 * W + 600))) p c 3) (ep_lstR (n := 3) AqP.st (eas_cons AqP.st (k1 (three (aq_str ev_c) (aq_str (ev_var rfl)) (aq_zeros (k := ((pl + 1 : Nat) : Int)) (by omega) (by omega) (ev_addM (ev_var rfl) (ev_c (v := vi 1))))) ((gd_three3 (gcl 1) (gnm 1) (grp _ (by rw [Int.toNat_natCast]; omega))).mono (by omega) (by omega)))
      (eas_cons AqP.st (k1 (three (aq_str ev_c) (aq_str (ev_var rfl)) (aq_zeros (k := ((pl - 1 : Nat) : Int)) (by omega) (by omega) (ev_is (ev_max2 (i := 0) (j := (pl : Int) - 1) ev_c (ev_op (ev_var rfl) ev_c rv_I0)) (by
        congr 1
        split <;> omega)))) ((gd_three3 (gcl 1) (gnm 1) (grp _ (by rw [Int.toNat_natCast]; omega))).mono (by omega) (by omega)))
      (eas_cons AqP.st (k1 (three (aq_str ev_c) (aq_non ev_c) (aq_tup eqs_nil (by show 0 ≤ 100000; decide))) ((gd_three3 (gcl 1) (gd_non (k := 1) (W := 0)) (grp 0 (by decide))).mono (by omega) (by omega))) eas_nil))) (by decide) pu5) fun l1 H6 e6 hl1 => ?_
    have pu6 := pu5.ex e6
    have dm6 := dm5.ex e6
    show tSeq _ _ _ [some (.ref p), some (.ref a), some y, some (.str nm), some (vi pl), some l1, none, none] H6
    refine q_asgP (P := LsR (AqP K F (Gd (k + 5) (2 * W + 600))) p c 5) (ep_catR (n1 := 3) (n2 := 2) AqP.st (ep_ev (ev_var rfl) fun _ e => LsR.ex AqP.st e hl1) (ep_lstR (n := 2) AqP.st (eas_cons AqP.st (k1 (three (aq_str ev_c) (aq_str ev_c) (aq_tup (eqs_cons (aq_non ev_c) (eqs_cons (aq_str (x := "0") ev_c) eqs_nil)) (by show 2 ≤ 100000; decide))) ((gd_three3 (gcl 1) (gm 1) (gd_pair (k := 0) (gd_non (W := 0)) (gd_word (s := "0") (by decide +kernel) (by decide +kernel)))).mono (by omega) (by omega)))
      (eas_cons AqP.st (k1 (three (aq_str ev_c) (aq_lst (eqs_cons (aq_str (x := "m") ev_c) eqs_nil) (by show 1 ≤ 100000; decide) dm6) (aq_tup (eqs_cons (aq_int (i := 0) ev_c) (eqs_cons (aq_int (i := 0) ev_c) eqs_nil)) (by show 2 ≤ 100000; decide))) ((gd_three3 (gcl 1) (gd_lst (k := 0) (W := 5) (L := 1) (fun d hd => by rw [List.mem_singleton.mp hd]; exact gm 0) (Nat.le_refl _)) (gd_pair (gz 0) (gz 0))).mono (by omega) (by omega))) eas_nil)) (by decide) pu6) (by decide) pu6) fun l2 H7 e7 hl2 => ?_
    have pu7 := pu6.ex e7
    have dm7 := dm6.ex e7
    have e57 := e6.trans e7
    have hy7 := hy5.ex e57
    show tCut _ _ _ [some (.ref p), some (.ref a), some y, some (.str nm), some (vi pl), some l2, none, none] H7
    have tree := hy7 S0 (by rw [hF0])
    refine q_cut (M := fun σ' H' => Ex H7 H' ∧ ∃ (n : Nat) (l3 : V) (y6 : Option V), 1 ≤ n ∧ n ≤ 9 ∧ LsR (AqP K F (Gd (k + 5) (2 * W + 600))) p c n l3 H' ∧ σ' = [some (.ref p), some (.ref a), some y, some (.str nm), some (vi pl), some l3, y6, none]) ?_ (fun σ' H8 hM => ?_)
    · cases T' with
      | case ks =>
        rw [tD] at tree hy7
        cases tree with
        | @tup b xs _ hb r =>
        have lx := r.len
        exact s_when (b := false) (et_is (et_and (a := true) (b := false) (et_val (ev_isi (ev_var rfl) ev_c (.ty _) (fun _ e => tyx_tup (ex_t e hb)) kit_tt)) (fun _ => et_is (et_test (len_is (K := K) (j := 3) (ev_var rfl) hb ev_c)) (by rw [lx]; rfl))) rfl) (fun z => by cases z) (fun _ H8 e8 => ⟨e8, 5, l2, none, by decide, by decide, LsR.ex AqP.st e8 hl2, rfl⟩)
      | clash nm2 r2 =>
        rw [tD] at tree hy7 g
        cases tree with
        | @tup b xs _ hb r =>
        cases r with
        | @cons x0 xs1 _ _ h0 r1 =>
        cases r1 with
        | @cons x1 xs2 _ _ h1 r2' =>
        cases r2' with
        | @cons x2 xs3 _ _ h2 r3 =>
        cases r3 with
        | nil =>
        cases h0 with
        | str =>
        cases h1 with
        | str =>
        unfold dN at h2
        cases h2 with
        | @tup rb rx _ hrb rr =>
        have erx : rx = r2.map vi := by
          have : ∀ {xs : List V} {ns : List Nat}, DqAll K S0 H7 xs (ns.map fun n => PyData.int ((n : Nat) : Int)) → xs = ns.map vi := fun {xs ns} h => by
            induction ns generalizing xs with
            | nil =>
              cases h with
              | nil => rfl
            | cons n ns ih =>
              cases h with
              | cons a b =>
                cases a with
                | int =>
                  rw [ih b]
                  rfl
          exact this rr
        subst erx
        have gr2 : Gd (k + 1) W (dN r2) := gd_mem g (by simp)
        have gn2 : Gd (k + 1) W (.str nm2) := gd_mem g (by simp)
        have lr2 : (r2.map vi).length ≤ 40000 := by
          have h1 := gr2.wgt
          unfold dN at h1
          rw [PyData.weight] at h1
          have h2 := weight_len (r2.map fun n => PyData.int ((n : Nat) : Int))
          rw [List.length_map] at h2 ⊢
          omega
        refine s_when (b := true) (et_is (et_and (a := true) (b := true) (et_val (ev_isi (ev_var rfl) ev_c (.ty _) (fun _ e => tyx_tup (ex_t e hb)) kit_tt)) (fun _ => et_is (et_test (len_is (K := K) (j := 3) (ev_var rfl) hb ev_c)) rfl)) rfl) (fun _ H8 e8 => ?_) (fun z => by cases z)
        have hb8 := ex_t e8 hb
        have hrb8 := ex_t e8 hrb
        have trp : EvL (tLc (iTup K (tOp (rIxT K) (tVar 2) (tC (.int 2)))) (gName 7) tYes (tOp (rIxL K) (tLst (tCons (tVar 7) (tCons (tOp rEq (tVar 7) (tC (.int 1))) tNil))) (tCB rInt1 (tCons (tOp (rI0 fun i j => .bl (decide (i < j))) (tVar 7) (tC (.int 2))) tNil))) [7]) [some (.ref p), some (.ref a), some (.ref b), some (.str nm), some (vi pl), some l2, none, none] H8 ((List.range (r2.map vi).length).map fun i => trv (r2.getD i 0)) := el_lcT (K := K) (j := 7) (vs := [7]) (ev_op (ev_var rfl) ev_c (rv_ixT (K := K) hb8 (atI_vi (k := 2) rfl))) hrb8 (fun i => trv (r2.getD i 0)) (by omega) (fun _ => rfl) (fun i x H9 e9 hx => by
          rw [List.getElem?_map] at hx
          cases hn : r2[i]? with
          | none => rw [hn] at hx; cases hx
          | some n =>
          rw [hn] at hx
          cases Option.some.inj hx
          have en : r2.getD i 0 = n := by rw [List.getD_eq_getElem?_getD, hn]; rfl
          rw [en]
          intro H10 e10 Q10 q10
          refine do_op (el_lst (vs := [vi n, .bl (decide (n = 1))]) (ea_cons (ev_var rfl) (ea_cons (ev_is (ev_op (ev_var rfl) ev_c (rv_eq rfl)) (congrArg V.bl (vi_eq (a := n) (b := 1)))) ea_nil)) (by show 2 ≤ 100000; decide) H10 e10 _ fun l H11 nl e11 hl => ev_intB (b := decide (n < 2)) (ev_ltM (b := 2) (ev_var rfl) ev_c) H11 (e10.trans e11) _ fun H12 e12 => ⟨l, _, _, trv n, rfl, rfl, sq_of (e12 _ _ hl), ?_, q10 H12 (e11.trans e12)⟩)
          unfold trv
          by_cases z : n < 2
          · rw [decide_eq_true z, if_pos rfl, if_pos z]
            rfl
          · rw [decide_eq_false z, if_neg (by decide), if_neg z]
            rfl)
        have er2 : ((List.range (r2.map vi).length).map fun i => trv (r2.getD i 0)) = r2.map trv := by
          have z := Dw.range_getD (0 : Nat) r2
          conv => rhs; rw [← z]
          rw [List.map_map, List.length_map]
          rfl
        rw [er2] at trp
        refine do_set (do_cb (do_cons (trp H8 (Ex.refl _) _ fun D9 H9 nD e9 hD => do_nil ⟨D9, _, rfl, .inl ⟨sq_of hD, fun rt nrt => ?_⟩⟩)))
        have e10 : Ex H8 (upd H9 rt (.tup (r2.map trv))) := e9.trans (Ex.new nrt)
        have hrt : (upd H9 rt (.tup (r2.map trv))) rt = some (.tup (r2.map trv)) := upd_same
        generalize upd H9 rt (.tup (r2.map trv)) = H10 at *
        have e710 := e8.trans e10
        have pu10 := pu7.ex e710
        have dm10 := dm7.ex e710
        have hb10 := ex_t e710 hb
        have hrb10 := ex_t e710 hrb
        have eF : ∀ S', F S' → S' = S0 := fun S' h => by rw [hF0] at h; exact h
        have rowq : ∀ S', DqAll K S' H10 (r2.map vi) (r2.map fun n => PyData.int ((n : Nat) : Int)) := fun S' => dq_nats r2
        have tqT : TQ K F [.str "clash", .str nm2, dN r2] (.ref b) H10 := ⟨_, ⟨b, rfl, hb10⟩, fun S' _ => .cons (.str _) (.cons (.str _) (.cons (.tup hrb10 (rowq S')) .nil)), rfl⟩
        have tqR : TQ K F (r2.map fun n => PyData.int ((n : Nat) : Int)) (.ref rb) H10 := ⟨_, ⟨rb, rfl, hrb10⟩, fun S' _ => rowq S', by rw [List.length_map, List.length_map]⟩
        have trq : ∀ ns : List Nat, ∀ S', DqAll K S' H10 (ns.map trv) (ns.map trd) := fun ns S' => by
          induction ns with
          | nil => exact .nil
          | cons n ns ih =>
            refine .cons ?_ ih
            unfold trv trd
            by_cases z : n < 2
            · rw [if_pos z, if_pos z]
              exact .bl _
            · rw [if_neg z, if_neg z]
              exact .int _
        show tAsg _ _ _ [some (.ref p), some (.ref a), some (.ref b), some (.str nm), some (vi pl), some l2, some (.ref rt), none] H10
        have ixs : ∀ {i : Nat} {z : V} {σ : L2.St}, ([.str "clash", .str nm2, .ref rb] : List V)[i]? = some z → σ[2]? = some (some (.ref b)) → Ev (tOp (rIxT K) (tVar 2) (tC (.int (i : Int)))) σ H10 z := fun {i z σ} h h2 => ev_op (ev_var h2) ev_c (rv_ixT (K := K) hb10 (atI_vi h))
        refine s_asgP (P := LsR (AqP K F (Gd (k + 5) (2 * W + 600))) p c 9) (ep_catR (n1 := 5) (n2 := 4) AqP.st (ep_ev (ev_var rfl) fun _ e => LsR.ex AqP.st (e710.trans e) hl2) (ep_lstR (n := 4) AqP.st (eas_cons AqP.st (k1 (aq_list (ev_var rfl) tqT dm10) ((gd_tl g).mono (by omega) (by omega)))
          (eas_cons AqP.st (k1 (tq_aq (tq_cat (tq_ev (ev_var rfl) tqT) (tq_tup (eqs_cons (aq_non ev_c) eqs_nil) (by show 1 ≤ 100000; decide)) (by show 3 + 1 ≤ 100000; decide))) ((gd_more g gd_non).mono (by omega) (by omega)))
          (eas_cons AqP.st (k1 (three (aq_str (ixs (i := 0) rfl rfl)) (aq_str (ixs (i := 1) rfl rfl)) (aq_list (ixs (i := 2) rfl rfl) tqR dm10)) ((gd_three3 (gcl (k + 1)) gn2 (gd_tl gr2)).mono (by omega) (by omega)))
          (eas_cons AqP.st (k1 (three (aq_str (ixs (i := 0) rfl rfl)) (aq_str (ixs (i := 1) rfl rfl)) (aq_ev (ev_var rfl) (fun S' _ => .tup (st_of hrt) (trq r2 S')))) ((gd_three3 (gcl (k + 1)) gn2 (gd_truths gr2)).mono (by omega) (by omega))) eas_nil)))) (by decide) pu10) (by decide) pu10) fun l3 H11 e11 hl3 => ⟨e710.trans e11, 9, l3, _, by decide, by decide, hl3, rfl⟩
    · obtain ⟨e8, n, l3, y6, n1, n9, hl3, hσ⟩ := hM
      subst hσ
      exact s_ret (ev_var rfl) fun H9 e9 => q l3 n H9 (o25.trans (.of_ex ((e57.trans e8).trans e9))) ((pu7.ex e8).ex e9) n1 n9 (LsR.ex AqP.st e9 hl3)
end
end K22
end
section
namespace K22
open PySem PySem.Spec PyProof.Rows L2 Evl RZ Dw M20 M25 CL LK LD
structure GdA (k W : Nat) (ds : List PyData) : Prop where
  lay : PyData.canLayAll0 ds = true
  dep : PyData.depthAll ds ≤ k
  wgt : PyData.weightAll ds ≤ W
  its : PyData.intsShortAll 13 ds = true
  sho : PyData.showableAll ds = true
theorem GdA.mono {k W k' W' : Nat} {d : List PyData} (h : GdA k W d) (a : k ≤ k') (b : W ≤ W') : GdA k' W' d := ⟨h.lay, Nat.le_trans h.dep a, Nat.le_trans h.wgt b, h.its, h.sho⟩
theorem gda_nil : GdA 0 0 [] := ⟨by rw [PyData.canLayAll0], by rw [PyData.depthAll]; exact Nat.le_refl _, by rw [PyData.weightAll]; exact Nat.le_refl _, by rw [PyData.intsShortAll], by rw [PyData.showableAll]⟩
theorem gda_cons {k W W' : Nat} {d : PyData} {ds : List PyData} (g : Gd k W d) (h : GdA k W' ds) : GdA k (W + 1 + W') (d :: ds) := by
  have g1 := g.dep
  have g2 := g.wgt
  have h1 := h.dep
  have h2 := h.wgt
  exact ⟨by rw [PyData.canLayAll0, g.lay, h.lay]; rfl, by rw [PyData.depthAll]; omega, by rw [PyData.weightAll]; omega, by rw [PyData.intsShortAll, g.its, h.its]; rfl, by rw [PyData.showableAll, g.sho, h.sho]; rfl⟩
theorem gda_one {k W : Nat} {d : PyData} (g : Gd k W d) : GdA k (W + 1) [d] := gda_cons g (gda_nil.mono (Nat.zero_le _) (Nat.le_refl _))
theorem gda_app {k W W' : Nat} : ∀ {as bs : List PyData}, GdA k W as → GdA k W' bs → GdA k (W + W') (as ++ bs)
  | [], bs, _, h => h.mono (Nat.le_refl _) (by omega)
  | d :: as, bs, g, h => by
    have g1 := g.lay
    have g2 := g.dep
    have g3 := g.wgt
    have g4 := g.its
    have g5 := g.sho
    rw [PyData.canLayAll0, Bool.and_eq_true] at g1
    rw [PyData.depthAll] at g2
    rw [PyData.weightAll] at g3
    rw [PyData.intsShortAll, Bool.and_eq_true] at g4
    rw [PyData.showableAll, Bool.and_eq_true] at g5
    have r := gda_app (k := k) (W := PyData.weightAll as) (W' := W') (as := as) (bs := bs) ⟨g1.2, by omega, Nat.le_refl _, g4.2, g5.2⟩ h
    exact (gda_cons (k := k) (W := d.weight) ⟨g1.1, by omega, Nat.le_refl _, g4.1, g5.1⟩ r).mono (Nat.le_refl _) (by omega)
theorem gda_split {k W : Nat} : ∀ {as bs : List PyData}, GdA k W (as ++ bs) → ∃ W1 W2, W1 + W2 ≤ W ∧ GdA k W1 as ∧ GdA k W2 bs
  | [], bs, h => ⟨0, W, by omega, gda_nil.mono (Nat.zero_le _) (Nat.le_refl _), h⟩
  | d :: as, bs, g => by
    have g1 := g.lay
    have g2 := g.dep
    have g3 := g.wgt
    have g4 := g.its
    have g5 := g.sho
    rw [List.cons_append] at g1 g2 g3 g4 g5
    rw [PyData.canLayAll0, Bool.and_eq_true] at g1
    rw [PyData.depthAll] at g2
    rw [PyData.weightAll] at g3
    rw [PyData.intsShortAll, Bool.and_eq_true] at g4
    rw [PyData.showableAll, Bool.and_eq_true] at g5
    obtain ⟨W1, W2, l, a, b⟩ := gda_split (k := k) (W := PyData.weightAll (as ++ bs)) (as := as) (bs := bs) ⟨g1.2, by omega, Nat.le_refl _, g4.2, g5.2⟩
    exact ⟨d.weight + 1 + W1, W2, by omega, gda_cons ⟨g1.1, by omega, Nat.le_refl _, g4.1, g5.1⟩ a, b⟩
theorem gd_tupA {k W : Nat} {ds : List PyData} (h : GdA k W ds) : Gd (k + 1) W (.tuple ds) := ⟨by rw [PyData.canLay0]; exact h.lay, by rw [PyData.depth]; have := h.dep; omega, by rw [PyData.weight]; exact h.wgt, by rw [PyData.intsShort]; exact h.its, by rw [PyData.showable]; exact h.sho⟩
theorem gd_lstA {k W : Nat} {ds : List PyData} (h : GdA k W ds) : Gd (k + 1) W (.list ds) := ⟨by rw [PyData.canLay0]; exact h.lay, by rw [PyData.depth]; have := h.dep; omega, by rw [PyData.weight]; exact h.wgt, by rw [PyData.intsShort]; exact h.its, by rw [PyData.showable]; exact h.sho⟩
theorem gda_take {k W : Nat} {ds : List PyData} (n : Nat) (g : GdA k W ds) : GdA k W (ds.take n) := by
  have g2 := g
  rw [← List.take_append_drop n ds] at g2
  obtain ⟨W1, W2, l, a, b⟩ := gda_split g2
  exact a.mono (Nat.le_refl _) (by omega)
theorem gda_drop {k W : Nat} {ds : List PyData} (n : Nat) (g : GdA k W ds) : GdA k W (ds.drop n) := by
  have g2 := g
  rw [← List.take_append_drop n ds] at g2
  obtain ⟨W1, W2, l, a, b⟩ := gda_split g2
  exact b.mono (Nat.le_refl _) (by omega)

theorem gd_invL {k W : Nat} {ds : List PyData} (g : Gd (k + 1) W (.list ds)) : GdA k W ds := by
  have a := g.lay
  have b := g.dep
  have c := g.wgt
  have d := g.its
  have e := g.sho
  rw [PyData.canLay0] at a
  rw [PyData.depth] at b
  rw [PyData.weight] at c
  rw [PyData.intsShort] at d
  rw [PyData.showable] at e
  exact ⟨a, by omega, c, d, e⟩
theorem gd_invT {k W : Nat} {ds : List PyData} (g : Gd (k + 1) W (.tuple ds)) : GdA k W ds := by
  have a := g.lay
  have b := g.dep
  have c := g.wgt
  have d := g.its
  have e := g.sho
  rw [PyData.canLay0] at a
  rw [PyData.depth] at b
  rw [PyData.weight] at c
  rw [PyData.intsShort] at d
  rw [PyData.showable] at e
  exact ⟨a, by omega, c, d, e⟩
theorem gda_mem {k W : Nat} {ds : List PyData} {d : PyData} (g : GdA k W ds) (h : d ∈ ds) : Gd k W d := gdl_mem h g.lay g.dep g.wgt g.its g.sho
/-- one thing of a row put anew -/
theorem gda_set {k W i : Nat} {ds : List PyData} {d0 : PyData} (g : GdA k W ds) (h : ds[i]? = some d0) : ∃ w0, Gd k w0 d0 ∧ w0 ≤ W ∧ ∀ k2 W2 d', k ≤ k2 → Gd k2 W2 d' → GdA k2 (W - w0 + W2) (ds.set i d') := by
  have il := (List.getElem?_eq_some_iff.mp h).1
  have e0 := (List.getElem?_eq_some_iff.mp h).2
  have sp : ds = ds.take i ++ (d0 :: ds.drop (i + 1)) := by
    conv => lhs; rw [← List.take_append_drop i ds, List.drop_eq_getElem_cons il]
    rw [e0]
  have g2 := g
  rw [sp] at g2
  obtain ⟨W1, W2, l, ga, gb⟩ := gda_split g2
  obtain ⟨W3, W4, l2, gc, gd⟩ := gda_split (as := [d0]) (bs := ds.drop (i + 1)) gb
  have w := gc.wgt
  rw [PyData.weightAll, PyData.weightAll] at w
  have g0 := gda_mem gc (List.mem_singleton.mpr rfl)
  refine ⟨W3 - 1, ⟨g0.lay, g0.dep, by omega, g0.its, g0.sho⟩, by omega, fun k2 V2 d' hk hd => ?_⟩
  have e1 : ds.set i d' = ds.take i ++ (d' :: ds.drop (i + 1)) := List.set_eq_take_append_cons_drop.trans (by rw [if_pos il])
  rw [e1]
  exact (gda_app (ga.mono hk (Nat.le_refl _)) (gda_cons hd (gd.mono hk (Nat.le_refl _)))).mono (Nat.le_refl _) (by omega)
section
variable {K : PySem.W.Frag} {S : Addr → Prop} {H H' : Hp} {p c : Addr}
mutual
theorem Dq.add {l : Addr} (nl : H l = none) : ∀ {v : V} {d : PyData}, Dq K S H v d → Dq K (fun b => S b ∨ b = l) H v d
  | _, _, .non => .non
  | _, _, .bl b => .bl b
  | _, _, .int i => .int i
  | _, _, .str x => .str x
  | _, _, .lst h hs r => .lst h (fun z => z.elim hs (fun e => by rw [e, nl] at h; cases h)) (DqAll.add nl r)
  | _, _, .tup h r => .tup h (DqAll.add nl r)
theorem DqAll.add {l : Addr} (nl : H l = none) : ∀ {vs : List V} {ds : List PyData}, DqAll K S H vs ds → DqAll K (fun b => S b ∨ b = l) H vs ds
  | _, _, .nil => .nil
  | _, _, .cons a b => .cons (Dq.add nl a) (DqAll.add nl b)
end
theorem DqAll.take : ∀ {vs : List V} {ds : List PyData} (k : Nat), DqAll K S H vs ds → DqAll K S H (vs.take k) (ds.take k)
  | _, _, k, .nil => by
    rw [List.take_nil, List.take_nil]
    exact .nil
  | _, _, 0, .cons a b => .nil
  | _, _, k + 1, .cons a b => .cons a (DqAll.take k b)
theorem DqAll.drop : ∀ {vs : List V} {ds : List PyData} (k : Nat), DqAll K S H vs ds → DqAll K S H (vs.drop k) (ds.drop k)
  | _, _, k, .nil => by
    rw [List.drop_nil, List.drop_nil]
    exact .nil
  | _, _, 0, .cons a b => .cons a b
  | _, _, k + 1, .cons a b => DqAll.drop k b
theorem DqAll.get : ∀ {vs : List V} {ds : List PyData} {k : Nat} {x : V}, DqAll K S H vs ds → vs[k]? = some x → ∃ e, ds[k]? = some e ∧ Dq K S H x e
  | _, _, k, _, .nil, h => by
    rw [List.getElem?_nil] at h
    cases h
  | _, _, 0, x, .cons a b, h => by
    cases Option.some.inj h
    exact ⟨_, rfl, a⟩
  | _, _, k + 1, x, .cons a b, h => DqAll.get (k := k) b h
theorem DqAll.set {x : V} {e : PyData} (h : Dq K S H x e) : ∀ {vs : List V} {ds : List PyData} (k : Nat), DqAll K S H vs ds → DqAll K S H (vs.set k x) (ds.set k e)
  | _, _, _, .nil => .nil
  | _, _, 0, .cons a b => .cons h b
  | _, _, k + 1, .cons a b => .cons a (DqAll.set h k b)
end
section
variable {P : Program} {w : World} {K : PySem.W.Frag} {mg : Str → Option Value} {base : Heap}
def isCl : PT Str → Bool
  | .clash _ _ => true
  | .case _ => false
def noKids : PT Str → Bool
  | .clash _ _ => true
  | .case ks => ks.isEmpty
theorem el_catLL {σ : L2.St} {H : Hp} {ta tb : TE} {xs ys : List V} (ha : EvL ta σ H xs) (hb : EvL tb σ H ys) (n : xs.length + ys.length ≤ 100000) : EvL (tOp rCat ta tb) σ H (xs ++ ys) := fun H1 e1 Q q => ha H1 e1 _ fun a H2 na e2 hA => hb H2 (e1.trans e2) _ fun b H3 nb e3 hB => ⟨a, b, xs, ys, rfl, rfl, e3 _ _ hA, hB, sz_of n, fun r nr => q r _ (fresh_back (e2.trans e3) nr) ((e2.trans e3).trans (Ex.new nr)) upd_same⟩
theorem aq_ofL {F : Fam} {σ : L2.St} {H : Hp} {te : TE} {xs : List V} {ds : List PyData} (h : EvL te σ H xs) (r : AqAll K F H xs ds) (dm : Dm F H) : EvP te σ H (fun v H' => Aq K F H' v (.list ds)) := fun H1 e Q q => h H1 e _ fun l H2 nl e2 hl => q _ H2 e2 fun S hS => .lst hl (fun z => dm.ex e S hS l z nl) ((r S hS).ex (e.trans e2))
theorem or_key {A B C D9 : TT} {σ : L2.St} {H : Hp} {Q : Bool → Hp → Prop} {a b c1 d : Bool} {p c : Addr} {t : Nat} (pu : Pur H p c t) (l9 : t ≤ 90000) (h0 : σ[0]? = some (some (.ref p))) (hA : EvT A σ H a) (hB : a = false → EvT B σ H b) (hC : b = false → EvT C σ H c1) (hD : c1 = false → EvT D9 σ H d) (key : ∀ b2 H2 t2, Off H H2 p c → Pur H2 p c t2 → t2 ≤ t + 1 → (b2 = false → c1 = false ∧ d = false) → Q b2 H2) : tOr A (tOr B (tOr C (tOr D9 (tTest (tOp rEq (tCall sp_draw [] E0 (tCons (tVar 0) (tCons (tC (.int 3)) tNil))) (tC (.int 0))))))) σ H Q := do_or (hA H (Ex.refl _) _ fun H1 e1 => by
  have yes : ∀ H2, Ex H H2 → Q true H2 := fun H2 e => key true H2 t (.of_ex e) (pu.ex e) (by omega) (fun z => by cases z)
  cases ha : a with
  | true => exact yes H1 e1
  | false =>
    refine do_or (hB ha H1 e1 _ fun H2 e2 => ?_)
    cases hb : b with
    | true => exact yes H2 (e1.trans e2)
    | false =>
      refine do_or (hC hb H2 (e1.trans e2) _ fun H3 e3 => ?_)
      cases hc : c1 with
      | true => exact yes H3 ((e1.trans e2).trans e3)
      | false =>
        refine do_or (hD hc H3 ((e1.trans e2).trans e3) _ fun H4 e4 => ?_)
        have e04 := ((e1.trans e2).trans e3).trans e4
        cases hd : d with
        | true => exact yes H4 e04
        | false =>
          refine do_test2 (do_draw (ev_var h0) (ev_c (v := vi 3)) (pu.ex e04) (by omega) (by decide) (by decide) fun k H5 hk o5 pu5 => do_ev ev_c fun H6 e6 => rv_eq rfl H6 (Ex.refl _) _ fun H7 e7 => ⟨_, rfl, ?_⟩)
          exact key _ H7 (t + 1) (((Off.of_ex e04).trans o5).trans (.of_ex (e6.trans e7))) (pu5.ex (e6.trans e7)) (Nat.le_refl _) (fun _ => ⟨hc, hd⟩))
def sp_bent (K : PySem.W.Frag) (d : Nat) : Sp := fun vs H Q _ => ∃ (p c : Addr) (t k W : Nat) (u y : V) (sg : List (Str × Nat)) (T : PT Str) (S : Addr → Prop), vs = [.ref p, u, y] ∧ Pur H p c t ∧ t + 4 * (d + 1) ≤ 80000 ∧ Sig K H u sg ∧ SigOk sg ∧ Dq K S H y (tD T) ∧ (∀ b, S b → H b ≠ none) ∧ S p ∧ S c ∧ Gd (k + 1) W (tD T) ∧ W ≤ 10000 ∧ k ≤ 40 ∧ TL d T ∧ ∀ v D t' H', Off H H' p c → Pur H' p c t' → t' ≤ t + 4 * (d + 1) → Dq K S H' v D → Gd (k + 5) (2 * W + 600) D → Q v H'
theorem bent_step (T : Txt mg) (D : Df K mg "_law_bent" s__law_bent ["_law_purse_here", "_law_signature_here", "_law_tree_here"]) (c_draw : Cl P w K mg base 1 "_law_draw" sp_draw) (c_pick : Cl P w K mg base 2 "_law_pick" (sp_pick K)) (c_odd_ones : Cl P w K mg base 3 "_law_odd_ones" (sp_odd_ones K)) (d : Nat) (spr : Sp) (c_rec : Cl P w K mg base (d + 3) "_law_bent" spr) (hrec : ∀ e, d = e + 1 → spr = sp_bent K e) : Cl P w K mg base (d + 4) "_law_bent" (sp_bent K d) := by
  refine cl_of (k := d + 3) D sc__law_bent (fun vs H Q E h => ?_) (fun f cdv A outer s H vs Q E hr h => ?_)
  · obtain ⟨p, c, t, k, W, u, y, sg, T', S, rfl, _⟩ := h
    rfl
  · obtain ⟨p, c, t, k, W, u, y, sg, T', S, rfl, pu, tl, hG, so, hy, dom, Sp_, Sc, g, hW, hk40, lev, q⟩ := h
    refine ⟨_, (pss_cons (ps_if (PW.pt (pw_or (pt_not (pt_val (pe_callB call_isi (by rfl) T.z_isinstance (by decide +kernel) (pa_cons (pv 2) (pa_cons (pe_ty "tuple" (by rfl) T.z_tuple (by decide +kernel)) pa_nil))))) (pw_or (pt_cmpR op_lt (pe_callB call_len_seq (by rfl) T.z_len PySem.boot_len (pa_cons (pv 2) pa_nil)) pe_int (nomark _)) (pw_or (pt_cmpR op_ne (pe_ix ix_tup (pv 2) pe_int (fun _ _ => rfl)) pe_str (nomark _)) (pw_or (pt_cmpR (op_eqD hr.units) (pe_ix ix_tup (pv 2) pe_int (fun _ _ => rfl)) (pe_lst pa_nil) (nomark _)) (pw_or1 (pt_cmpR op_eq (pe_cl c_draw hr (by first | decide | omega) (by rfl) (pa_cons (pv 0) (pa_cons pe_int pa_nil))) pe_int (nomark _))))))))
        (pss_cons (ps_set (i := 3) sc__law_bent.nd rfl (.inl rfl) (pe_lst (pa_cons pe_non (pa_cons (pe_tup pa_nil) (pa_cons (pe_tup (pa_cons pe_str (pa_cons (pe_lst pa_nil) pa_nil))) (pa_cons (pe_tup (pa_cons pe_str (pa_cons pe_str (pa_cons (pe_tup pa_nil) pa_nil)))) (pa_cons (pe_tup (pa_cons pe_str (pa_cons pe_str (pa_cons (pe_tup (pa_cons pe_int (pa_cons pe_bl pa_nil))) pa_nil)))) (pa_cons (pe_tup (pa_cons pe_str (pa_cons pe_str (pa_cons (pe_lst (pa_cons pe_int (pa_cons pe_int pa_nil))) pa_nil)))) (pa_cons pe_str pa_nil)))))))))
        (pss_cons (ps_set (i := 3) sc__law_bent.nd rfl (.inl rfl) (pe_op op_cat (pv 3) (pe_lst (pa_cons (pe_tup (pa_cons pe_str (pa_cons (pe_lst (pa_cons (pv 2) (pa_cons (pv 2) pa_nil))) pa_nil))) (pa_cons (pe_tup (pa_cons (pv 2) pa_nil)) (pa_cons (pe_tup (pa_cons pe_str (pa_cons pe_str (pa_cons (pe_tup (pa_cons pe_int (pa_cons pe_int pa_nil))) pa_nil)))) (pa_cons (pe_tup (pa_cons pe_str (pa_cons pe_str (pa_cons (pe_tup (pa_cons (pe_un un_neg pe_int) (pa_cons pe_int pa_nil))) pa_nil)))) (pa_cons (pe_tup (pa_cons pe_str (pa_cons pe_str pa_nil))) pa_nil))))))))
        (pss_one (ps_ret (pe_cl c_pick hr (by first | decide | omega) (by rfl) (pa_cons (pv 0) (pa_cons (pe_op op_cat (pv 3) (pe_cl c_odd_ones hr (by first | decide | omega) (by rfl) (pa_cons (pv 0) (pa_cons (pv 1) (pa_cons (pv 2) pa_nil))))) pa_nil)))))))
        pss_nil)
      (pss_cons (ps_set (i := 4) sc__law_bent.nd rfl (.inl rfl) (pe_callTy call_list_of (by rfl) T.z_list (by decide +kernel) (pa_cons (pe_ix ix_tup (pv 2) pe_int (fun _ _ => rfl)) pa_nil)))
      (pss_cons (ps_set (i := 5) sc__law_bent.nd rfl (.inl rfl) (pe_cl c_draw hr (by first | decide | omega) (by rfl) (pa_cons (pv 0) (pa_cons (pe_callB call_len_seq (by rfl) T.z_len PySem.boot_len (pa_cons (pv 4) pa_nil)) pa_nil))))
      (pss_cons (ps_set (i := 6) sc__law_bent.nd rfl (.inl rfl) (pe_cl c_draw hr (by first | decide | omega) (by rfl) (pa_cons (pv 0) (pa_cons pe_int pa_nil))))
      (pss_cons (ps_set (i := 7) sc__law_bent.nd rfl (.inl rfl) (pe_lst (pa_cons (pe_tup (pa_cons pe_str (pa_cons (pe_op op_cat (pe_slice sl_list (pv 4) po_none (po_some (pv 5))) (pe_slice sl_list (pv 4) (po_some (pe_op op_add (pv 5) pe_int)) po_none)) pa_nil))) (pa_cons (pe_tup (pa_cons pe_str (pa_cons (pe_op op_cat (pv 4) (pe_lst (pa_cons (pe_ix ix_list (pv 4) (pv 5) (fun _ _ => rfl)) pa_nil))) pa_nil))) (pa_cons (pe_tup (pa_cons pe_str (pa_cons (pe_callTy call_tuple_of (by rfl) T.z_tuple (by decide +kernel) (pa_cons (pv 4) pa_nil)) pa_nil))) pa_nil)))))
      (pss_cons (ps_set (i := 7) sc__law_bent.nd rfl (.inl rfl) (pe_op op_cat (pv 7) (pe_lst (pa_cons (pe_lst (pa_cons pe_str (pa_cons (pv 4) pa_nil))) (pa_cons (pe_tup (pa_cons pe_str (pa_cons (pv 4) (pa_cons pe_non pa_nil)))) pa_nil)))))
      (pss_cons (ps_if (pt_cmpR op_lt (pv 6) pe_int (nomark _))
        (pss_one (ps_ret (pe_ix ix_list (pv 7) (pv 6) (fun _ _ => rfl))))
        pss_nil)
      (pss_cons (ps_asg (pe_cl c_rec hr (by first | decide | omega) (by rfl) (pa_cons (pv 0) (pa_cons (pv 1) (pa_cons (pe_ix ix_list (pv 4) (pv 5) (fun _ _ => rfl)) pa_nil)))) (pg_sub (pv 4) (pv 5) set_list))
      (pss_one (ps_ret (pe_tup (pa_cons pe_str (pa_cons (pv 4) pa_nil))))))))))))), ?_⟩
    have G0 : ∀ {S' : Addr → Prop} (h : (fun S' => S' = S) S'), S' = S := fun h => h
    -- what the tree is
    obtain ⟨b, xs, ds, ey, hb, hlen, hsh⟩ : ∃ b xs ds, y = .ref b ∧ SqT K H b xs ∧ xs.length = List.length (α := PyData) ds ∧ ((∃ nm r x1 x2, T' = .clash nm r ∧ xs = [.str "clash", x1, x2] ∧ 2 ≤ 3) ∨ ∃ ks la kvs, T' = .case ks ∧ xs = [.str "case", .ref la] ∧ H la = some (.lst kvs) ∧ ¬ S la ∧ DqAll K S H kvs (tDs ks)) := by
      cases T' with
      | clash nm r =>
        rw [tD] at hy
        cases hy with
        | @tup b xs ds h r9 =>
        have l9 := r9.len
        cases r9 with
        | cons h0 r1 =>
        cases r1 with
        | cons h1 r2 =>
        cases r2 with
        | cons h2 r3 =>
        cases r3 with
        | nil =>
        cases h0 with
        | str => exact ⟨b, _, _, rfl, h, l9, .inl ⟨nm, r, _, _, rfl, rfl, by decide⟩⟩
      | case ks =>
        rw [tD] at hy
        cases hy with
        | @tup b xs ds h r9 =>
        have l9 := r9.len
        cases r9 with
        | cons h0 r1 =>
        cases r1 with
        | cons h1 r2 =>
        cases r2 with
        | nil =>
        cases h0 with
        | str =>
        cases h1 with
        | lst hla nla kz => exact ⟨b, _, _, rfl, h, l9, .inr ⟨ks, _, _, rfl, rfl, hla, nla, kz⟩⟩
    subst ey
    have two : ∃ z0 z1 zs, xs = z0 :: z1 :: zs := by
      rcases hsh with ⟨_, _, x1, x2, _, e, _⟩ | ⟨_, la, _, _, e, _⟩
      · exact ⟨_, _, _, e⟩
      · exact ⟨_, _, _, e⟩
    obtain ⟨z0, z1, zs, exs⟩ := two
    have x2 : 2 ≤ xs.length := by rw [exs]; simp
    refine do_when (or_key (a := false) (b := false) (c1 := isCl T') (d := noKids T') pu (by omega) rfl (et_is (et_not (et_val (ev_isi (ev_var rfl) ev_c (.ty _) (fun _ e => tyx_tup (ex_t e hb)) kit_tt))) rfl) (fun _ => et_is (et_test (ev_ltM (a := xs.length) (b := 2) (ev_is (ev_lenT (ev_var rfl) hb) rfl) ev_c)) (decide_eq_false (by omega))) (fun _ => ?_) (fun hcase => ?_) fun b2 H2 t2 o2 pu2 l2 hb2 => ?_)
    · rcases hsh with ⟨nm, r, x1, x2', rfl, rfl, _⟩ | ⟨ks, la, kvs, rfl, rfl, _⟩
      · exact et_is (et_test (ev_op (ev_op (ev_var rfl) ev_c (rv_ixT (K := K) hb (atI_vi (k := 0) rfl))) ev_c (rv_ne rfl))) (show (!decide (V.str "clash" = V.str "case")) = true by decide +kernel)
      · exact et_is (et_test (ev_op (ev_op (ev_var rfl) ev_c (rv_ixT (K := K) hb (atI_vi (k := 0) rfl))) ev_c (rv_ne rfl))) (show (!decide (V.str "case" = V.str "case")) = false by decide +kernel)
    · rcases hsh with ⟨nm, r, x1, x2', rfl, rfl, _⟩ | ⟨ks, la, kvs, rfl, rfl, hla, nla, kz⟩
      · cases hcase
      · have gl : Gd (k + 1) W (.list (tDs ks)) := by
          rw [tD] at g
          exact gd_mem g (by simp)
        refine et_test (fun H3 e3 Q3 q3 => do_op (ev_op (ev_var rfl) ev_c (rv_ixT (K := K) hb (atI_vi (k := 1) rfl)) H3 e3 _ fun H4 e4 => do_lst (do_nil ⟨Nat.zero_le _, fun r nr => ⟨.list (tDs ks), .list [], .lst (sq_of ((e3.trans (e4.trans (Ex.new nr))) _ _ hla)) (DzAll.dp ((kz.ex (e3.trans (e4.trans (Ex.new nr)))).dz Sp_ Sc)), .lst (sq_of upd_same) .nil, ?_, by decide +kernel, ?_⟩⟩)))
        · exact gl.shaped (by omega)
        · have : PyData.eqv (.list (tDs ks)) (.list []) = ks.isEmpty := by
            cases ks with
            | nil => rw [tDs]; simp [PyData.eqv, PyData.eqvAll]
            | cons a b => rw [tDs]; simp [PyData.eqv, PyData.eqvAll]
          rw [this]
          exact q3 _ (e4.trans (Ex.new nr))
    have et2 : ET K H H2 := o2.et pu
    have hy2 : Dq K S H2 (.ref b) (tD T') := hy.keep (fun a xs n q => o2 a _ (fun z => n (z ▸ Sp_)) (fun z => n (z ▸ Sc)) q) et2 (fun _ z => z)
    have dom2 : ∀ b, S b → H2 b ≠ none := fun b hS => Dm.off (F := fun S' => S' = S) pu2 o2 (fun S' e b' hb' => by
      have e2 : S' = S := e
      rw [e2] at hb'
      exact dom b' hb') S rfl b hS
    cases b2 with
    | true =>
      refine iteT ?_
      have dm2 : Dm (fun S' => S' = S) H2 := fun S' e b' hb' => by
        have e2 : S' = S := e
        rw [e2] at hb'
        exact dom2 b' hb'
      have pc : PC (fun S' => S' = S) p c := fun S' e => by
        have e2 : S' = S := e
        rw [e2]
        exact ⟨Sp_, Sc⟩
      have hyq : Aq K (fun S' => S' = S) H2 (.ref b) (tD T') := fun S' e => by
        have e2 : S' = S := e
        rw [e2]
        exact hy2
      generalize hF : (fun S' => S' = S : Fam) = F at dm2 pc hyq
      have gcl : ∀ k', Gd k' 5 (.str "clash") := fun k' => (gd_word (s := "clash") (by decide +kernel) (by decide +kernel)).mono (Nat.zero_le _) (Nat.le_refl _)
      have gca : ∀ k', Gd k' 5 (.str "case") := fun k' => (gd_word (s := "case") (by decide +kernel) (by decide +kernel)).mono (Nat.zero_le _) (Nat.le_refl _)
      have gw : ∀ {z : Str} (k' : Nat), (PyData.str z).canLay0 = true → z.cps.size ≤ 5 → Gd k' 5 (.str z) := fun k' a b => (gd_word a b).mono (Nat.zero_le _) (Nat.le_refl _)
      have gi : ∀ (k' n : Nat), n ≤ 1000 → Gd k' 10 (.int ((n : Nat) : Int)) := fun k' n hn => (gd_int (n := n) hn).mono (Nat.zero_le _) (Nat.le_refl _)
      have gneg : Gd 0 10 (.int (-1)) := ⟨by rw [PyData.canLay0], by rw [PyData.depth]; omega, by rw [PyData.weight]; decide, by rw [PyData.intsShort]; decide +kernel, by rw [PyData.showable]; decide +kernel⟩
      have ge : Gd 1 0 (.tuple []) := gd_tup (k := 0) (W := 0) (L := 0) (fun d hd => by cases hd) (Nat.le_refl 0)
      have gel : Gd 1 0 (.list []) := gd_lst (k := 0) (W := 0) (L := 0) (fun d hd => by cases hd) (Nat.le_refl 0)
      have k1 : ∀ {σ : L2.St} {H6 : Hp} {te : TE} {d : PyData}, EvP te σ H6 (fun v H' => Aq K F H' v d) → Gd (k + 5) (2 * W + 600) d → EvP te σ H6 (AqP K F (Gd (k + 5) (2 * W + 600))) := fun h b => h.imp fun _ _ _ z => ⟨_, b, z⟩
      have two2 : ∀ {σ : L2.St} {H6 : Hp} {ta tb : TE} {a b : PyData}, EvP ta σ H6 (fun v H' => Aq K F H' v a) → EvP tb σ H6 (fun v H' => Aq K F H' v b) → EvP (tTup (tCons ta (tCons tb tNil))) σ H6 (fun v H' => Aq K F H' v (.tuple [a, b])) := fun h1 h2 => aq_tup (eqs_cons h1 (eqs_cons h2 eqs_nil)) (by show 2 ≤ 100000; decide)
      have three : ∀ {σ : L2.St} {H6 : Hp} {ta tb tc : TE} {a b c : PyData}, EvP ta σ H6 (fun v H' => Aq K F H' v a) → EvP tb σ H6 (fun v H' => Aq K F H' v b) → EvP tc σ H6 (fun v H' => Aq K F H' v c) → EvP (tTup (tCons ta (tCons tb (tCons tc tNil)))) σ H6 (fun v H' => Aq K F H' v (.tuple [a, b, c])) := fun h1 h2 h3 => aq_tup (eqs_cons h1 (eqs_cons h2 (eqs_cons h3 eqs_nil))) (by show 3 ≤ 100000; decide)
      refine q_asgP (P := LsR (AqP K F (Gd (k + 5) (2 * W + 600))) p c 7) (ep_lstR (n := 7) AqP.st (eas_cons AqP.st (k1 (aq_non ev_c) gd_non)
        (eas_cons AqP.st (k1 (aq_tup eqs_nil (by show 0 ≤ 100000; decide)) (ge.mono (by omega) (by omega)))
        (eas_cons AqP.st (k1 (two2 (aq_str ev_c) (aq_lst eqs_nil (by show 0 ≤ 100000; decide) dm2)) ((gd_pair (gca 1) gel).mono (by omega) (by omega)))
        (eas_cons AqP.st (k1 (three (aq_str ev_c) (aq_str (x := "zz") ev_c) (aq_tup eqs_nil (by show 0 ≤ 100000; decide))) ((gd_three3 (gcl 1) (gw 1 (by decide +kernel) (by decide +kernel)) ge).mono (by omega) (by omega)))
        (eas_cons AqP.st (k1 (three (aq_str ev_c) (aq_str (x := "m") ev_c) (two2 (aq_int (i := 0) ev_c) (aq_bl (b := true) ev_c))) ((gd_three3 (gcl 1) (gw 1 (by decide +kernel) (by decide +kernel)) (gd_pair (gi 0 0 (by decide)) (gd_bo (W := 0) true))).mono (by omega) (by omega)))
        (eas_cons AqP.st (k1 (three (aq_str ev_c) (aq_str (x := "m") ev_c) (aq_lst (eqs_cons (aq_int (i := 0) ev_c) (eqs_cons (aq_int (i := 0) ev_c) eqs_nil)) (by show 2 ≤ 100000; decide) dm2)) ((gd_three3 (gcl 1) (gw 1 (by decide +kernel) (by decide +kernel)) (gd_tl (gd_pair (gi 0 0 (by decide)) (gi 0 0 (by decide))))).mono (by omega) (by omega)))
        (eas_cons AqP.st (k1 (aq_str (x := "clash") ev_c) ((gcl 0).mono (by omega) (by omega))) eas_nil))))))) (by decide) pu2) fun l1 H3 e3 hl1 => ?_
      have pu3 := pu2.ex e3
      have dm3 := dm2.ex e3
      show tSeq _ _ _ [some (.ref p), some u, some (.ref b), some l1, none, none, none, none] H3
      refine q_asgP (P := LsR (AqP K F (Gd (k + 5) (2 * W + 600))) p c 12) (ep_catR (n1 := 7) (n2 := 5) AqP.st (ep_ev (ev_var rfl) fun _ e => LsR.ex AqP.st e hl1) (ep_lstR (n := 5) AqP.st (eas_cons AqP.st (k1 (two2 (aq_str ev_c) (aq_lst (eqs_cons (aq_ev (ev_var rfl) (hyq.ex e3)) (eqs_cons (aq_ev (ev_var rfl) (hyq.ex e3)) eqs_nil)) (by show 2 ≤ 100000; decide) dm3)) ((gd_pair (gca (k + 2)) (gd_tl (gd_pair g g))).mono (by omega) (by omega)))
        (eas_cons AqP.st (k1 (aq_tup (eqs_cons (aq_ev (ev_var rfl) (hyq.ex e3)) eqs_nil) (by show 1 ≤ 100000; decide)) ((gd_tup (k := k + 1) (W := W) (L := 1) (fun d hd => by rw [List.mem_singleton.mp hd]; exact g) (Nat.le_refl _)).mono (by omega) (by omega)))
        (eas_cons AqP.st (k1 (three (aq_str ev_c) (aq_str (x := "m") ev_c) (two2 (aq_int (i := 0) ev_c) (aq_int (i := 9) ev_c))) ((gd_three3 (gcl 1) (gw 1 (by decide +kernel) (by decide +kernel)) (gd_pair (gi 0 0 (by decide)) (gi 0 9 (by decide)))).mono (by omega) (by omega)))
        (eas_cons AqP.st (k1 (three (aq_str ev_c) (aq_str (x := "m") ev_c) (two2 (aq_int (i := -1) ev_neg1) (aq_int (i := 0) ev_c))) ((gd_three3 (gcl 1) (gw 1 (by decide +kernel) (by decide +kernel)) (gd_pair gneg (gi 0 0 (by decide)))).mono (by omega) (by omega)))
        (eas_cons AqP.st (k1 (two2 (aq_str (x := "clash") ev_c) (aq_str (x := "m") ev_c)) ((gd_pair (gcl 0) (gw 0 (by decide +kernel) (by decide +kernel))).mono (by omega) (by omega))) eas_nil))))) (by decide) pu3) (by decide) pu3) fun l2 H4 e4 hl2 => ?_
      have pu4 := pu3.ex e4
      have e24 := e3.trans e4
      have dm4 := dm3.ex e4
      show tRet _ _ [some (.ref p), some u, some (.ref b), some l2, none, none, none, none] H4
      refine do_ret (do_cons (do_ev (ev_var rfl) fun Ha ea => do_cons (do_op (do_ev (ev_var rfl) fun Hb eb => (ea_cons (ev_var rfl) (ea_cons (ev_var rfl) (ea_cons (ev_var rfl) ea_nil))) Hb (Ex.refl _) _ fun Hc ec => ?_))))
      have e4c := (ea.trans eb).trans ec
      refine ⟨p, c, t2, k, W, u, .ref b, sg, T', F, rfl, pu4.ex e4c, by omega, (hG.et et2).ex (e24.trans e4c), so, hyq.ex (e24.trans e4c), dm4.ex e4c, pc, ⟨S, hF.symm⟩, g, by omega, fun v n H5 o5 pu5 n1 n9 hv => ?_⟩
      have o45 : Off H4 H5 p c := (Off.of_ex e4c).trans o5
      obtain ⟨la, xa, rfl, hla, lap, lac, lna, alla⟩ := hl2
      obtain ⟨lb, xb, rfl, hlb, lbp, lbc, lnb, allb⟩ := hv
      have hla5 := o45 _ _ lap lac hla
      refine ⟨la, lb, xa, xb, rfl, rfl, hla5, hlb, sz_of (by omega), fun r nr => do_nil ?_⟩
      obtain ⟨rp, rc⟩ := pu5.fresh nr
      refine ⟨p, c, r, t2 + 1, xa ++ xb, rfl, pu5.ex (Ex.new nr), by omega, .inl ⟨upd_same, rp, rc⟩, by rw [List.length_append]; omega, by rw [List.length_append]; omega, fun kk x H6 hx o6 pu6 => ?_⟩
      have hx5 : AqP K F (Gd (k + 5) (2 * W + 600)) x (upd H5 r (.lst (xa ++ xb))) := by
        rcases List.mem_append.mp (List.mem_of_getElem? hx) with m | m
        · exact AqP.st _ _ _ (Ex.new nr) ((alla x m).off pc pu4 o45)
        · exact AqP.st _ _ _ (Ex.new nr) (allb x m)
      obtain ⟨D', gD, aD⟩ := hx5.off pc (pu5.ex (Ex.new nr)) o6
      exact q x D' _ H6 ((((o2.trans (.of_ex e24)).trans o45).trans (.of_ex (Ex.new nr))).trans o6) pu6 (by omega) (aD S (by rw [← hF])) gD
    | false =>
      refine iteF ?_
      obtain ⟨hc1, hd1⟩ := hb2 rfl
      rcases hsh with ⟨nm, r, x1, x2', rfl, rfl, _⟩ | ⟨ks, la, kvs, rfl, rfl, hla, nla, kz⟩
      · cases hc1
      have kne : ks ≠ [] := fun z => by rw [z] at hd1; cases hd1
      obtain ⟨e, rfl⟩ : ∃ e, d = e + 1 := by
        cases d with
        | zero => exact lev.elim
        | succ e => exact ⟨e, rfl⟩
      have := hrec e rfl
      subst this
      obtain ⟨l6, lev6⟩ : ks.length ≤ 6 ∧ ∀ t ∈ ks, TL e t := lev
      have lk : kvs.length = ks.length := by
        have := kz.len
        rw [tDs_map, List.length_map] at this
        exact this
      have lk1 : 1 ≤ ks.length := List.length_pos_iff.mpr kne
      -- weights
      rw [tD] at g
      have gA := gd_invT g
      have gLk := gda_mem gA (d := .list (tDs ks)) (by simp)
      have wl : (PyData.list (tDs ks)).weight + 6 ≤ W := by
        have := gA.wgt
        rw [PyData.weightAll, PyData.weightAll, PyData.weightAll, show (PyData.str "case").weight = 4 by rw [PyData.weight]; decide +kernel] at this
        omega
      obtain ⟨k1, rfl⟩ : ∃ k1, k = k1 + 1 := by
        have := gLk.dep
        rw [PyData.depth] at this
        exact ⟨k - 1, by omega⟩
      have gK : Gd (k1 + 1) (W - 6) (.list (tDs ks)) := ⟨gLk.lay, gLk.dep, by omega, gLk.its, gLk.sho⟩
      have gKA := gd_invL gK
      have gcase : ∀ k', Gd k' 4 (.str "case") := fun k' => ⟨by decide +kernel, by rw [PyData.depth]; omega, by rw [PyData.weight]; decide +kernel, by rw [PyData.intsShort], by rw [PyData.showable]⟩
      have hla2 : H2 la = some (.lst kvs) := o2 _ _ (fun z => nla (z ▸ Sp_)) (fun z => nla (z ▸ Sc)) hla
      have kz2 : DqAll K S H2 kvs (tDs ks) := kz.keep (fun a xs n q => o2 a _ (fun z => n (z ▸ Sp_)) (fun z => n (z ▸ Sc)) q) et2 (fun _ z => z)
      have hb2' := et2 _ _ hb
      refine do_set (do_cb (do_cons (do_ev (ev_op (ev_var rfl) ev_c (rv_ixT (K := K) hb2' (atI_vi (k := 1) rfl))) fun H3 e3 => do_nil ⟨la, kvs, rfl, .inl (sq_of (e3 _ _ hla2)), fun lt nlt => ?_⟩)))
      have e24 : Ex H2 (upd H3 lt (.lst kvs)) := e3.trans (Ex.new nlt)
      have hlt4 : (upd H3 lt (.lst kvs)) lt = some (.lst kvs) := upd_same
      have pu3 := pu2.ex e3
      obtain ⟨ltp, ltc⟩ := pu3.fresh nlt
      have nlt2 : H2 lt = none := fresh_back e3 nlt
      have nSlt : ¬ S lt := fun z => dom2 lt z nlt2
      have kzl2 : DqAll K (fun b => S b ∨ b = lt) H2 kvs (tDs ks) := kz2.add nlt2
      have pu4 := pu2.ex e24
      generalize upd H3 lt (.lst kvs) = H4 at *
      show tSeq _ _ _ [some (.ref p), some u, some (.ref b), none, some (.ref lt), none, none, none] H4
      refine do_set (do_draw (n := kvs.length) (ev_var rfl) (ev_len (K := K) (ev_var rfl) (sq_of hlt4)) pu4 (by omega) (by omega) (by omega) fun at_ H5 hat o5 pu5 => ?_)
      show tSeq _ _ _ [some (.ref p), some u, some (.ref b), none, some (.ref lt), some (vi at_), none, none] H5
      refine do_set (do_draw (n := 9) (ev_var rfl) ev_c pu5 (by omega) (by decide) (by decide) fun way H6 hway o6 pu6 => ?_)
      have o26 : Off H2 H6 p c := ((Off.of_ex e24).trans o5).trans o6
      have o46 : Off H4 H6 p c := o5.trans o6
      have hlt6 := o46 _ _ ltp ltc hlt4
      have et26 : ET K H2 H6 := o26.et pu2
      have kzl6 : DqAll K (fun b => S b ∨ b = lt) H6 kvs (tDs ks) := kzl2.keep (fun a xs n q => o26 a _ (fun z => n (.inl (z ▸ Sp_))) (fun z => n (.inl (z ▸ Sc))) q) et26 (fun _ z => z)
      have kz6 : DqAll K S H6 kvs (tDs ks) := kzl6.mono fun b z => .inl z
      have dom6 : ∀ b, S b → H6 b ≠ none := fun b hS => Dm.off (F := fun S' => S' = S) pu6 o26 (fun S' e b' hb' => by
        have e2 : S' = S := e
        rw [e2] at hb'
        exact dom2 b' hb') S rfl b hS
      have dm6 : Dm (fun S' => S' = S) H6 := fun S' e b' hb' => by
        have e2 : S' = S := e
        rw [e2] at hb'
        exact dom6 b' hb'
      have kq6 : AqAll K (fun S' => S' = S) H6 kvs (tDs ks) := fun S' e => by
        have e2 : S' = S := e
        rw [e2]
        exact kz6
      have ltq6 : Aq K (fun S' => S' = S) H6 (.ref lt) (.list (tDs ks)) := fun S' e => by
        have e2 : S' = S := e
        rw [e2]
        exact .lst hlt6 nSlt kz6
      have keq : ∀ {S' : Addr → Prop}, (fun S' => S' = S : Fam) S' → S' = S := fun h => h
      generalize hF : (fun S' => S' = S : Fam) = F at dm6 kq6 ltq6
      have eF : ∀ {S'}, F S' → S' = S := fun {S'} h => by rw [← hF] at h; exact h
      have xat : kvs[at_]? = some kvs[at_] := List.getElem?_eq_getElem hat
      obtain ⟨d0, hd0, _⟩ := kz6.get xat
      obtain ⟨t0, ht0, et0⟩ : ∃ t0, ks[at_]? = some t0 ∧ d0 = tD t0 := by
        rw [tDs_map, List.getElem?_map] at hd0
        cases hk : ks[at_]? with
        | none => rw [hk] at hd0; cases hd0
        | some t0 =>
          rw [hk] at hd0
          exact ⟨t0, rfl, (Option.some.inj hd0).symm⟩
      have r2 : ∀ {σ : L2.St} {H7 : Hp} {te : TE} {d : PyData}, EvP te σ H7 (fun v H' => Aq K F H' v d) → Gd (k1 + 1 + 5) (2 * W + 600) d → EvP te σ H7 (AqP K F (Gd (k1 + 1 + 5) (2 * W + 600))) := fun h b => h.imp fun _ _ _ z => ⟨_, b, z⟩
      have two2 : ∀ {σ : L2.St} {H6 : Hp} {ta tb : TE} {a b : PyData}, EvP ta σ H6 (fun v H' => Aq K F H' v a) → EvP tb σ H6 (fun v H' => Aq K F H' v b) → EvP (tTup (tCons ta (tCons tb tNil))) σ H6 (fun v H' => Aq K F H' v (.tuple [a, b])) := fun h1 h2 => aq_tup (eqs_cons h1 (eqs_cons h2 eqs_nil)) (by show 2 ≤ 100000; decide)
      show tSeq _ _ _ [some (.ref p), some u, some (.ref b), none, some (.ref lt), some (vi at_), some (vi way), none] H6
      refine q_asgP (P := LsR (AqP K F (Gd (k1 + 1 + 5) (2 * W + 600))) p c 3) (ep_lstR (n := 3) AqP.st (eas_cons AqP.st (r2 (two2 (aq_str ev_c) (aq_ofL (ds := (tDs ks).take at_ ++ (tDs ks).drop (at_ + 1)) (el_catLL (xs := kvs.take at_) (ys := kvs.drop (at_ + 1)) (by
            have := el_sl (K := K) (te := tVar 4) (σ := [some (.ref p), some u, some (.ref b), none, some (.ref lt), some (vi at_), some (vi way), none]) (H := H6) (tl := tNoPart) (th := tPart (tVar 5)) (lo := none) (hi := some ((at_ : Nat) : Int)) (ev_var rfl) eo_none (eo_some (ev_var rfl)) (sq_of hlt6)
            rw [cut_to'] at this
            exact this) (by
            have := el_sl (K := K) (te := tVar 4) (σ := [some (.ref p), some u, some (.ref b), none, some (.ref lt), some (vi at_), some (vi way), none]) (H := H6) (tl := tPart (tOp (rI0 fun i j => .int (i + j)) (tVar 5) (tC (.int 1)))) (th := tNoPart) (lo := some (((at_ + 1 : Nat)) : Int)) (hi := none) (ev_var rfl) (eo_some (ev_addM (a := at_) (b := 1) (ev_var rfl) (ev_c (v := vi 1)))) eo_none (sq_of hlt6)
            rw [cut_from'] at this
            exact this) (by rw [List.length_take, List.length_drop]; omega)) (fun S' h => ((kq6 S' h).take at_).app ((kq6 S' h).drop (at_ + 1))) dm6)) ((gd_pair (gcase (k1 + 1)) (gd_lstA (gda_app (gda_take at_ gKA) (gda_drop (at_ + 1) gKA)))).mono (by omega) (by omega)))
        (eas_cons AqP.st (r2 (two2 (aq_str ev_c) (aq_ofL (ds := tDs ks ++ [tD t0]) (el_catVL (xs := kvs) (ys := [kvs[at_]]) (ev_var rfl) hlt6 (el_lst (vs := [kvs[at_]]) (ea_cons (ev_op (ev_var rfl) (ev_var rfl) (rv_ixL (K := K) (sq_of hlt6) (atI_vi (k := at_) xat))) ea_nil) (by show 1 ≤ 100000; decide)) (by show kvs.length + 1 ≤ 100000; omega)) (fun S' h => (kq6 S' h).app (by
            obtain ⟨d9, hd9, dq9⟩ := (kq6 S' h).get xat
            rw [hd0] at hd9
            cases hd9
            rw [← et0]
            exact .cons dq9 .nil)) dm6)) ((gd_pair (gcase (k1 + 1)) (gd_lstA (gda_app gKA (gda_one (gda_mem gKA (d := tD t0) (by rw [tDs_map]; exact List.mem_map.mpr ⟨t0, List.mem_of_getElem? ht0, rfl⟩)))))).mono (by omega) (by omega)))
        (eas_cons AqP.st (r2 (two2 (aq_str ev_c) (fun H1 e1 Q1 q1 => eu_tupL (K := K) (ev_var rfl) (sq_of hlt6) H1 e1 _ fun r H7 nr e7 hr7 => q1 (.ref r) H7 e7 (fun S' h => .tup (st_of hr7) ((kq6 S' h).ex (e1.trans e7))))) ((gd_pair (gcase (k1 + 1)) (gd_tupA gKA)).mono (by omega) (by omega))) eas_nil))) (by decide) pu6) fun l1 H7 e7 hl1 => ?_
      have pu7 := pu6.ex e7
      show tSeq _ _ _ [some (.ref p), some u, some (.ref b), none, some (.ref lt), some (vi at_), some (vi way), some l1] H7
      refine q_asgP (P := LsR (AqP K F (Gd (k1 + 1 + 5) (2 * W + 600))) p c 5) (ep_catR (n1 := 3) (n2 := 2) AqP.st (ep_ev (ev_var rfl) fun _ e => LsR.ex AqP.st e hl1) (ep_lstR (n := 2) AqP.st (eas_cons AqP.st (r2 (aq_lst (eqs_cons (aq_str (x := "case") ev_c) (eqs_cons (aq_ev (ev_var rfl) (ltq6.ex e7)) eqs_nil)) (by show 2 ≤ 100000; decide) (dm6.ex e7)) ((gd_tl (gd_pair (gcase (k1 + 1)) gK)).mono (by omega) (by omega)))
        (eas_cons AqP.st (r2 (aq_tup (eqs_cons (aq_str (x := "case") ev_c) (eqs_cons (aq_ev (ev_var rfl) (ltq6.ex e7)) (eqs_cons (aq_non ev_c) eqs_nil))) (by show 3 ≤ 100000; decide)) ((gd_three3 (gcase (k1 + 1)) gK (gd_non (W := 0))).mono (by omega) (by omega))) eas_nil)) (by decide) pu7) (by decide) pu7) fun l2 H8 e8 hl2 => ?_
      have pu8 := pu7.ex e8
      have e68 := e7.trans e8
      have o28 := o26.trans (.of_ex e68)
      show tSeq _ _ _ [some (.ref p), some u, some (.ref b), none, some (.ref lt), some (vi at_), some (vi way), some l2] H8
      refine q_when (b := decide (way < 5)) (et_test (ev_ltM (b := 5) (ev_var rfl) ev_c)) (fun hw5 H9 e9 => ?_) (fun hw5 H9 e9 => ?_)
      · have w5 := of_decide_eq_true hw5
        obtain ⟨lq, xq, rfl, hlq, _, _, lnq, allq⟩ := hl2
        have xw : xq[way]? = some (xq[way]'(by omega)) := List.getElem?_eq_getElem (by omega)
        refine s_ret (ev_op (ev_var rfl) (ev_var rfl) (rv_ixL (K := K) (sq_of (e9 _ _ hlq)) (atI_vi (k := way) xw))) fun H10 e10 => ?_
        obtain ⟨D', gD, aD⟩ := allq _ (List.mem_of_getElem? xw)
        exact q _ D' _ H10 ((o2.trans o28).trans (.of_ex (e9.trans e10))) (pu8.ex (e9.trans e10)) (by omega) ((aD S (by rw [← hF])).ex (e9.trans e10)) gD
      have e69 := e68.trans e9
      have hlt9 := e69 _ _ hlt6
      have pu9 := pu8.ex e9
      have kzl9 := kzl6.ex e69
      -- one of them bent
      obtain ⟨w0, g0, lw0, put⟩ := gda_set gKA (d0 := tD t0) (by rw [hd0, et0])
      obtain ⟨k2, rfl⟩ : ∃ k2, k1 = k2 + 1 := by
        have := g0.dep
        have dp : 1 ≤ (tD t0).depth := by
          cases t0 <;> (rw [tD, PyData.depth]; omega)
        exact ⟨k1 - 1, by omega⟩
      refine do_seq (do_asg ((ea_cons (ev_var rfl) (ea_cons (ev_var rfl) (ea_cons (ev_op (ev_var rfl) (ev_var rfl) (rv_ixL (K := K) (sq_of hlt9) (atI_vi (k := at_) xat))) ea_nil))) H9 (Ex.refl _) _ fun H10 e10 => ?_))
      have pu10 := pu9.ex e10
      have dq0 : Dq K (fun b => S b ∨ b = lt) H10 kvs[at_] (tD t0) := by
        obtain ⟨d9, hd9, dq9⟩ := (kzl9.ex e10).get xat
        rw [hd0] at hd9
        cases hd9
        rw [← et0]
        exact dq9
      have o210 : Off H2 H10 p c := (o28.trans (.of_ex e9)).trans (.of_ex e10)
      refine ⟨p, c, t2 + 2, k2, w0, u, kvs[at_], sg, t0, fun b => S b ∨ b = lt, rfl, pu10, by omega, (hG.et et2).et (o210.et pu2), so, dq0, fun b hS => ?_, .inl Sp_, .inl Sc, g0, by omega, by omega, lev6 t0 (List.mem_of_getElem? ht0), fun v D' t' H11 o11 pu11 l11 dq11 gd11 => ?_⟩
      · rcases hS with z | z
        · obtain ⟨o, ho⟩ := Option.ne_none_iff_exists'.mp (dom6 b z)
          rw [(e69.trans e10) _ _ ho]
          exact fun z => by cases z
        · rw [z, e10 _ _ hlt9]
          exact fun z => by cases z
      have hlt11 := o11 _ _ ltp ltc (e10 _ _ hlt9)
      have kzl11 : DqAll K (fun b => S b ∨ b = lt) H11 kvs (tDs ks) := (kzl9.ex e10).keep (fun a xs n q => o11 a _ (fun z => n (.inl (z ▸ Sp_))) (fun z => n (.inl (z ▸ Sc))) q) (o11.et pu10) (fun _ z => z)
      refine do_sub (do_ev (ev_var rfl) fun H12 e12 => do_ev (ev_var rfl) fun H13 e13 => ?_)
      have e113 := e12.trans e13
      have hlt13 := e113 _ _ hlt11
      refine ⟨lt, kvs, (at_ : Int), at_, rfl, rfl, hlt13, ixN_nat hat, ?_⟩
      have etU : ET K H13 (upd H13 lt (.lst (kvs.set at_ v))) := ET.refl.upd hlt13
      have kpU : ∀ a xs, ¬ (S a ∨ a = lt) → H13 a = some (.lst xs) → (upd H13 lt (.lst (kvs.set at_ v))) a = some (.lst xs) := fun a xs n q => by
        rw [upd_ne (fun z => n (.inr z))]
        exact q
      have row : DqAll K S (upd H13 lt (.lst (kvs.set at_ v))) (kvs.set at_ v) ((tDs ks).set at_ D') := DqAll.set ((dq11.ex e113).keep kpU etU (fun b z => Or.inl z)) at_ ((kzl11.ex e113).keep kpU etU (fun b z => Or.inl z))
      have ltH : H lt = none := o2.back ltp ltc nlt2
      have oU : Off H (upd H13 lt (.lst (kvs.set at_ v))) p c := (((o2.trans o210).trans o11).trans (.of_ex e113)).upd ltH
      have puU : Pur (upd H13 lt (.lst (kvs.set at_ v))) p c t' := (pu11.ex e113).upd ltp ltc
      have hltU : (upd H13 lt (.lst (kvs.set at_ v))) lt = some (.lst (kvs.set at_ v)) := upd_same
      generalize upd H13 lt (.lst (kvs.set at_ v)) = HU at *
      refine do_ret (eu_tup (vs := [.str "case", .ref lt]) (ea_cons ev_c (ea_cons (ev_var rfl) ea_nil)) (by show 2 ≤ 100000; decide) HU (Ex.refl _) _ fun r HV nr eV hr => ?_)
      refine q _ (.tuple [.str "case", .list ((tDs ks).set at_ D')]) t' HV (oU.trans (.of_ex eV)) (puU.ex eV) (by omega) (.tup (st_of hr) (.cons (.str _) (.cons (.lst (eV _ _ hltU) nSlt (row.ex eV)) .nil))) ?_
      exact (gd_pair (gcase (k2 + 6)) (gd_lstA (put (k2 + 5) (2 * w0 + 600) D' (by omega) gd11))).mono (by omega) (by omega)
theorem c_bent (T : Txt mg) (D : Df K mg "_law_bent" s__law_bent ["_law_purse_here", "_law_signature_here", "_law_tree_here"]) (c_draw : Cl P w K mg base 1 "_law_draw" sp_draw) (c_pick : Cl P w K mg base 2 "_law_pick" (sp_pick K)) (c_odd_ones : Cl P w K mg base 3 "_law_odd_ones" (sp_odd_ones K)) : ∀ d : Nat, Cl P w K mg base (d + 4) "_law_bent" (sp_bent K d)
  | 0 => bent_step T D c_draw c_pick c_odd_ones 0 (fun _ _ _ _ => False) (cl_of (k := 2) D sc__law_bent (fun vs H Q E h => h.elim) (fun f cdv A outer s H vs Q E hr h => h.elim)) (fun e h => by omega)
  | d + 1 => bent_step T D c_draw c_pick c_odd_ones (d + 1) (sp_bent K d) (c_bent T D c_draw c_pick c_odd_ones d) (fun e h => by
      have : d = e := by omega
      rw [this])
end
end K22
end
section
namespace K22
open PySem PySem.Spec PyProof.Rows L2 Evl RZ Dw M20 M25 CL LK LD
theorem wb_4 {n : Nat} (h : n ≤ 4) : wb n ≤ 10000 := by
  have : n = 0 ∨ n = 1 ∨ n = 2 ∨ n = 3 ∨ n = 4 := by omega
  rcases this with rfl | rfl | rfl | rfl | rfl <;> decide
theorem rt_ok {x y : MArg} (tw : Two x y) (n4 : x.2.1 ≤ 4) : ∀ (k : Nat) (F : List Nat) (t : PT Str), Bg x.2.1 F.length F → F.length + k = x.2.1 → Rt (sysOf x y) F t → TOk k t
  | k, F, .clash nm r, hF, e, h => by
    cases h with
    | @clash _ c hc hb =>
      obtain ⟨d, hd, e1, hr⟩ := cls_mem.mp hc
      obtain ⟨lr, low⟩ := rows_of hr
      have := hF.le
      exact leaf_ok (sg := x.1) (k := d.2) tw.ok.1 (by rw [e1]; exact hd) lr (fun z hz => by have := low z hz; omega)
  | 0, F, .case ks, hF, e, h => by
    cases h with
    | case lt _ _ =>
      replace lt : F.length < x.2.1 := lt
      omega
  | k + 1, F, .case ks, hF, e, h => by
    cases h with
    | case lt lk each =>
      have lf := free_len hF
      replace lk : ks.length = (free x.2.1 F).length := lk
      refine case_ok (fun t ht => ?_) (by rw [lk, lf]; omega)
      obtain ⟨i, hi⟩ := List.mem_iff_getElem?.mp ht
      have il : i < (free x.2.1 F).length := by rw [← lk]; exact (List.getElem?_eq_some_iff.mp hi).1
      have gi := List.getElem?_eq_getElem il
      obtain ⟨a, b⟩ := mem_free.mp (List.getElem_mem il)
      have sn := hF.snoc a b
      exact rt_ok tw n4 k (F ++ [(free x.2.1 F)[i]]) t (by rw [List.length_append]; exact sn) (by rw [List.length_append, List.length_singleton]; omega) (each i _ t hi gi)
theorem trv_dq {K : PySem.W.Frag} {H : Hp} {S : Addr → Prop} : ∀ {t : PT Str} {A : List Addr} {v : V}, TrV K H A v t → (∀ b ∈ A, ¬ S b) → Dq K S H v (tD t)
  | .clash nm r, A, v, h, no => by
    cases h with
    | clash s n =>
      rw [tD]
      exact .tup s (.cons (.str _) (.cons (.str _) (.cons (nats_dq n) .nil)))
  | .case ks, A, v, h, no => by
    cases h with
    | @case b a vs _ AS s ha l1 l2 each =>
      rw [tD]
      refine .tup s (.cons (.str _) (.cons (.lst ha (no a (List.mem_cons_self ..)) ?_) .nil))
      have kid : ∀ (i : Nat) (h : i < ks.length), Dq K S H (vs[i]'(by omega)) (tD ks[i]) := fun i h =>
        have hk : sizeOf ks[i] < sizeOf ks := List.sizeOf_lt_of_mem (List.getElem_mem h)
        trv_dq (each i (AS[i]'(by omega)) _ ks[i] (List.getElem?_eq_getElem _) (List.getElem?_eq_getElem _) (List.getElem?_eq_getElem _)) (fun b hb => no b (List.mem_cons_of_mem _ (List.mem_flatten.mpr ⟨_, List.getElem_mem (by omega), hb⟩)))
      have all : ∀ (us : List V) (ts : List (PT Str)) (l : us.length = ts.length), (∀ (i : Nat) (h : i < ts.length), Dq K S H (us[i]'(by omega)) (tD ts[i])) → DqAll K S H us (tDs ts) := fun us ts => by
        induction ts generalizing us with
        | nil =>
          intro l _
          rw [List.length_eq_zero_iff.mp l, tDs]
          exact .nil
        | cons t ts ih =>
          intro l h
          match us, l with
          | u :: us, l =>
            rw [tDs]
            exact .cons (h 0 (by simp)) (ih us (Nat.succ.inj l) fun i hi => h (i + 1) (by simp; omega))
      exact all vs ks l2 kid
termination_by t => sizeOf t
decreasing_by
  simp
  omega
theorem Dz.ofq {K : PySem.W.Frag} {H : Hp} {p c : Addr} {v : V} {d : PyData} (h : Dq K (fun b => b = p ∨ b = c) H v d) : Dz K p c H v d := h.dz (.inl rfl) (.inr rfl)
section
variable {P : Program} {w : World} {K : PySem.W.Frag} {mg : Str → Option Value} {base : Heap}
def Pp (K : PySem.W.Frag) (p c : Addr) : V → Hp → Prop := DzP K p c (Gd 50 30000)
/-- what likeness tells, as it is used -/
theorem told_of {p c : Addr} {t : Nat} {x y : MArg} {H0 H : Hp} {v : V} (pr : Pair2 x y) (n4 : x.2.1 ≤ 4) (e : Ex H0 H) (pu : Pur H0 p c t) (h : LkV K H0 H v x y) : ∃ (ta : Addr) (s : Str) (xs : List V), v = .ref ta ∧ SqT K H ta (.str s :: xs) ∧ Pp K p c v H ∧ (s = "none" → ∃ z T, xs = [z] ∧ (∀ S, (∀ b, S b → H0 b ≠ none) → Dq K S H z (tD T)) ∧ TOk x.2.1 T) := by
  unfold LkV at h
  have gw : ∀ {s : Str}, (PyData.str s).canLay0 = true → s.cps.size ≤ 5 → Gd 10 5 (.str s) := fun a b => (gd_word a b).mono (Nat.zero_le _) (Nat.le_refl _)
  by_cases en : x.2.1 = y.2.1
  · rw [if_pos en] at h
    have tw : Two x y := ⟨pr.ok, pr.ok2, pr.es, en.symm⟩
    rcases led_all tw.sys with ⟨m, e1, om, _⟩ | ⟨T, e1, rt, _⟩
    · have e2 : LK.led (sysOf x y) x.2.1 [] = .inl m := e1
      rw [e2] at h
      obtain ⟨a, z, rfl, s, hz⟩ := h
      have om' : Ord x.2.1 m := om
      have gm : Gd 1 66 (dN m) := gd_tup (k := 0) (W := 10) (L := 6) (fun d hd => by
        obtain ⟨i, hi, rfl⟩ := List.mem_map.mp hd
        have := (bg_ord.mpr om').low i hi
        exact gd_int (n := i) (by omega)) (by rw [List.length_map, om'.len]; omega)
      exact ⟨a, "map", [z], rfl, s, ⟨.tuple [.str "map", dN m], Dz.ofq (.tup s (.cons (.str _) (.cons (nats_dq hz) .nil))), (gd_pair (gw (s := "map") (by decide +kernel) (by decide +kernel)) (gm.mono (show 1 ≤ 10 by decide) (Nat.le_refl _))).mono (by decide) (by decide)⟩, fun z => absurd z (by decide +kernel)⟩
    · have e2 : LK.led (sysOf x y) x.2.1 [] = .inr T := e1
      rw [e2] at h
      obtain ⟨a, z, A, rfl, s, tr, _, no⟩ := h
      have ok : TOk x.2.1 T := rt_ok tw n4 x.2.1 [] T ⟨rfl, fun x z => (by cases z), List.nodup_nil⟩ (Nat.zero_add _) rt
      have dq : ∀ S, (∀ b, S b → H0 b ≠ none) → Dq K S H z (tD T) := fun S hS => trv_dq tr fun b hb z => hS b z (no b hb)
      have occ : ∀ b, (b = p ∨ b = c) → H0 b ≠ none := fun b hb => by
        rcases hb with z | z
        · rw [z, pu.1]; exact fun z => by cases z
        · obtain ⟨cs, _, _, hcs⟩ := pu.2
          rw [z, hcs]; exact fun z => by cases z
      have w4 := wb_4 n4
      exact ⟨a, "none", [z], rfl, s, ⟨.tuple [.str "none", tD T], Dz.ofq (.tup s (.cons (.str _) (.cons (dq _ occ) .nil))), (gd_pair (gw (s := "none") (by decide +kernel) (by decide +kernel)) (ok.g.mono (show 2 * x.2.1 + 2 ≤ 10 by omega) (Nat.le_refl _))).mono (by decide) (by omega)⟩, fun _ => ⟨z, T, rfl, dq, ok⟩⟩
  · rw [if_neg en] at h
    obtain ⟨a, rfl, s⟩ := h
    exact ⟨a, "size", [], rfl, s, ⟨.tuple [.str "size"], .tup s (.cons (.str _) .nil), (gd_tup (k := 0) (W := 5) (L := 1) (fun d hd => by rw [List.mem_singleton.mp hd]; exact gd_word (by decide +kernel) (by decide +kernel)) (Nat.le_refl _)).mono (by decide) (by decide)⟩, fun z => absurd z (by decide +kernel)⟩
end
end K22
end
section
namespace K22
open PySem PySem.Spec PyProof.Rows L2 Evl RZ Dw M20 M25 CL LK LD
theorem sl_tupAK {X : Cx} (K : PySem.W.Frag) (h : X.K = K := by rfl) : SlR X (rSlA K) := by
  subst h
  exact sl_tupA
section
variable {K : PySem.W.Frag} {σ : L2.St} {H H' : Hp} {p c : Addr} {t n : Nat} {te : TE} {φ : PyData → Prop} {F : Fam} {ds : List PyData}
theorem LsR.off {R : V → Hp → Prop} {r : V} (so : ∀ v, R v H → R v H') (o : Off H H' p c) (h : LsR R p c n r H) : LsR R p c n r H' := let ⟨l, xs, q, hx, a, b, ln, all⟩ := h; ⟨l, xs, q, o _ _ a b hx, a, b, ln, fun x hx => so x (all x hx)⟩
theorem LsR.imp {R R' : V → Hp → Prop} {r : V} (so : ∀ v, R v H → R' v H) (h : LsR R p c n r H) : LsR R' p c n r H := let ⟨l, xs, q, hx, a, b, ln, all⟩ := h; ⟨l, xs, q, hx, a, b, ln, fun x hx => so x (all x hx)⟩
/-- data without lists -/
def FT : Fam := fun S => S = fun _ => True
theorem AqP.et {g : PyData → Prop} {v : V} (et : ET K H H') (h : AqP K FT g v H) : AqP K FT g v H' := let ⟨d, a, b⟩ := h; ⟨d, a, fun S hS => (b S hS).keep (fun a xs nS _ => absurd (by rw [hS]; trivial) nS) et (fun _ z => z)⟩
theorem AqP.dz {g : PyData → Prop} {v : V} (h : AqP K FT g v H) : DzP K p c g v H := let ⟨d, a, b⟩ := h; ⟨d, Dq.dz (S := fun _ => True) trivial trivial (b _ rfl), a⟩
theorem tq_last (h : EvP te σ H (TQ K F ds)) (l : 1 ≤ ds.length) {tk : TE} (hk : Ev tk σ H (.int (-1))) : EvP (tSl (rSlA K) te tNoPart (tPart tk)) σ H (TQ K F (ds.take (ds.length - 1))) := fun H1 e Q q =>
  h H1 e _ fun v H2 e2 hv => by
    obtain ⟨xs, hT, z, lx⟩ := hv
    refine tv_sl (K := K) (te := fun _ H Q => Q v H) (σ := σ) (H := H2) (fun H3 e3 Q3 q3 => q3 v H3 (Ex.refl _) (hT.ex e3)) eo_none (eo_some fun H3 e3 => hk H3 ((e.trans e2).trans e3)) H2 (Ex.refl _) _ fun x H3 e3 hx => q x H3 (e2.trans e3) ⟨_, hx, ?_, ?_⟩
    · rw [cut_last (by omega), lx]
      exact fun S hS => ((z S hS).take _).ex e3
    · rw [cut_last (by omega), List.length_take, List.length_take]
      omega
/-- a comprehension over a new list, what it tells without lists -/
theorem ep_lcP {R0 : V → Hp → Prop} {tl : TE} {j : Nat} {vs : List Nat} (st0 : ∀ v H H', Ex H H' → R0 v H → R0 v H') (et0 : ∀ v H H', ET K H H' → R0 v H → R0 v H') (h : EvP tl σ H (LsR R0 p c n)) (hn : n ≤ 100) (pu : Pur H p c t) (hwp : ∀ x, wipe ((wipe σ vs).set j (some x)) vs = wipe σ vs) (he : ∀ x H1, Ex H H1 → R0 x H1 → EvP te ((wipe σ vs).set j (some x)) H1 (AqP K FT φ)) :
    EvP (tLc (iList K tl) (gName j) tYes te vs) σ H (LsR (DzP K p c φ) p c n) := fun H0 e Q q => h H0 e _ fun v H1 e1 ⟨a, xs, ev, ha, ap, ac, ln, all⟩ => by
  subst ev
  refine ⟨a, rfl, ⟨xs, sq_of ha⟩, fun Dl nD => lc_it (walk_list (K := K) (a := a) (xs := xs)) (fun i H2 => Ex H1 H2 ∧ ∃ ys : List V, H2 Dl = some (.lst ys) ∧ ys.length = i ∧ ∀ y ∈ ys, AqP K FT φ y H2) ⟨Ex.new nD, [], upd_same, rfl, fun b hb => by cases hb⟩ (fun i H2 _ y => sq_of (y.1 _ _ ha)) (fun i x H2 H3 hi y yy => ?_) (fun H2 y => ?_)⟩
  · obtain ⟨rfl, hx⟩ := yy
    obtain ⟨e2, ys, hD, lb, hb⟩ := y
    refine ⟨hwp x, et_yes _ (Ex.refl _) _ fun H5 e5 => ?_⟩
    refine iteT ?_
    refine he x H5 ((e.trans e1).trans (e2.trans e5)) (st0 _ _ _ (e2.trans e5) (all x (List.mem_of_getElem? hx))) _ (Ex.refl _) _ fun y H4 e4 hy => ⟨_, e4 _ _ (e5 _ _ hD), sz_lt (by omega), ((e2.trans e5).trans e4).mut nD, ys ++ [y], upd_same, by rw [List.length_append, lb]; rfl, fun b2 h2 => ?_⟩
    have etD : ET K H4 (upd H4 Dl (.lst (ys ++ [y]))) := ET.refl.upd (e4 _ _ (e5 _ _ hD))
    rcases List.mem_append.mp h2 with h2 | h2
    · exact ((hb b2 h2).et (Dw.Ex.et (e5.trans e4))).et etD
    · rw [List.mem_singleton.mp h2]
      exact hy.et etD
  · obtain ⟨e2, ys, hD, lb, hb⟩ := y
    obtain ⟨Dp, Dc⟩ := (pu.ex (e.trans e1)).fresh nD
    exact q _ H2 (e1.trans e2) ⟨Dl, ys, rfl, hD, Dp, Dc, by omega, fun x hx => (hb x hx).dz⟩
end
end K22
end
section
namespace K22
open PySem PySem.Spec PyProof.Rows L2 Evl RZ Dw M20 M25 CL LK LD
section
variable {P : Program} {w : World} {K : PySem.W.Frag} {mg : Str → Option Value} {base : Heap}
theorem dz_reps {σ : L2.St} {H : Hp} {p c : Addr} {te tk : TE} {k : Nat} {v : V} {d : PyData} (k9 : k ≤ 6) (hv : Ev te σ H v) (hd : ∀ H', Dz K p c H' v d) (hk : Ev tk σ H (vi k)) : EvP (tOp (rRepTE K) (tTup (tCons te tNil)) tk) σ H (fun v H' => Dz K p c H' v (.tuple (List.replicate k d))) := fun H1 e Q q =>
  do_op (eu_tup (vs := [v]) (ea_cons hv ea_nil) (by show 1 ≤ 100000; decide) H1 e _ fun a H2 na e2 ha => hk H2 (e.trans e2) _ fun H3 e3 => by
    refine .inl ⟨a, (k : Int), [v], rfl, rfl, st_of (e3 _ _ ha), (by intro z; cases z), by omega, by omega, by show 1 ≤ 1000; decide, fun h b nb => ?_, fun h => ?_, fun h b nb => ?_⟩
    · have : k = 0 := by omega
      subst this
      exact q _ _ ((e2.trans e3).trans (Ex.new nb)) (.tup (st_of upd_same) .nil)
    · have : k = 1 := by omega
      subst this
      exact q _ _ (e2.trans e3) (.tup (st_of (e3 _ _ ha)) (.cons (hd _) .nil))
    · refine q _ _ ((e2.trans e3).trans (Ex.new nb)) (.tup (st_of upd_same) ?_)
      rw [Int.toNat_natCast, rep1]
      have : ∀ n : Nat, DzAll K p c (upd H3 b (.tup (List.replicate k v))) (List.replicate n v) (List.replicate n d) := fun n => by
        induction n with
        | zero => exact .nil
        | succ n ih => exact .cons (hd _) ih
      exact this k)
def sp_papers (K : PySem.W.Frag) : Sp := fun vs H Q _ => ∃ (p c : Addr) (t : Nat) (u v x : V) (p1 p2 : MArg), vs = [.ref p, u, v, x] ∧ Pur H p c t ∧ t ≤ 60000 ∧ MA K H u v p1 ∧ Mdl K H x p2.2.1 p2.2.2 ∧ Pair2 p1 p2 ∧ p1.2.1 ≤ 4 ∧ ∀ r n t' H', Off H H' p c → Pur H' p c t' → t' ≤ t + 3000 → n ≤ 100 → LsR (Pp K p c) p c n r H' → Q r H'
theorem c_papers (T : Txt mg) (D : Df K mg "_law_papers" s__law_papers ["_law_purse_here", "_law_signature_here", "_law_one", "_law_other"]) (c_likeness : Cl P w K mg base 12 "likeness" (sp_likeness K)) (c_order : Cl P w K mg base 3 "_law_order" sp_order) (c_tree_all : ∀ d : Nat, Cl P w K mg base (d + 3) "_law_tree" (sp_tree K d)) (c_bent_all : ∀ d : Nat, Cl P w K mg base (d + 4) "_law_bent" (sp_bent K d)) : Cl P w K mg base 13 "_law_papers" (sp_papers K) := by
  refine cl_of (k := 12) D sc__law_papers (fun vs H Q E h => ?_) (fun f cdv A outer s H vs Q E hr h => ?_)
  · obtain ⟨p, c, t, u, v, x, p1, p2, rfl, _⟩ := h
    rfl
  · obtain ⟨p, c, t, u, v, x, p1, p2, rfl, pu, tl, hm, hw, pr, n4, q⟩ := h
    have c_tree := c_tree_all 3
    have c_bent := c_bent_all 4
    refine ⟨_, (pss_cons (ps_set (i := 4) sc__law_papers.nd rfl (.inr rfl) (pe_cl c_likeness hr (by first | decide | omega) (by rfl) (pa_cons (pv 1) (pa_cons (pv 2) (pa_cons (pv 3) pa_nil)))))
      (pss_cons (ps_set (i := 5) sc__law_papers.nd rfl (.inr rfl) (pe_cl c_order hr (by first | decide | omega) (by rfl) (pa_cons (pv 0) (pa_cons (pe_ix ix_tup (pv 2) pe_int (fun _ _ => rfl)) pa_nil))))
      (pss_cons (ps_set (i := 6) sc__law_papers.nd rfl (.inl rfl) (pe_callTy call_tuple_of (by rfl) T.z_tuple (by decide +kernel) (pa_cons (pe_lc (own := [("_law_number", 10)]) (g := (gName 10)) (by rfl) sc__law_papers.nd (pi_tup (pv 5)) (blkOk_by (own := [("_law_number", 10)]) (N := ["_law_purse_here", "_law_signature_here", "_law_one", "_law_other", "_law_told_here", "_law_order_here", "_law_truths", "_law_some_here", "_law_k", "_law_tree_here", "_law_number", "_law_odd"]) (sc := (defScope s__law_papers)) (by decide +kernel)) (fun _ _ _ _ _ => (pg_name (i := 10) sc__law_papers.nd rfl (.inl rfl))) (fun _ _ _ _ _ => pts_nil) (fun _ _ _ _ _ => (pe_ix (ix_listK K) (pe_lst (pa_cons (pv 10) (pa_cons (pe_cmpR op_eq (pv 10) pe_int (nomark _)) pa_nil))) (pe_callTy call_int1 (by rfl) T.z_int (by decide +kernel) (pa_cons (pe_cmpR op_lt (pv 10) pe_int (nomark _)) pa_nil)) (fun _ _ => rfl)))) pa_nil)))
      (pss_cons (ps_set (i := 7) sc__law_papers.nd rfl (.inl rfl) (pe_lst (pa_cons (pv 4) (pa_cons (pe_tup (pa_cons pe_str pa_nil)) (pa_cons (pe_tup (pa_cons pe_str (pa_cons (pv 5) pa_nil))) (pa_cons (pe_tup (pa_cons pe_str (pa_cons (pe_listRg rfl (by rfl) T.z_list (prg_1 (by rfl) T.z_range (pe_ix ix_tup (pv 2) pe_int (fun _ _ => rfl)))) pa_nil))) (pa_cons (pe_tup (pa_cons pe_str (pa_cons pe_non pa_nil))) (pa_cons (pe_tup (pa_cons pe_str (pa_cons (pv 6) pa_nil))) pa_nil))))))))
      (pss_cons (ps_set (i := 7) sc__law_papers.nd rfl (.inl rfl) (pe_op op_cat (pv 7) (pe_lst (pa_cons (pe_tup (pa_cons pe_str (pa_cons (pe_op op_repTE (pe_tup (pa_cons pe_int pa_nil)) (pe_ix ix_tup (pv 2) pe_int (fun _ _ => rfl))) pa_nil))) (pa_cons (pe_tup (pa_cons pe_str (pa_cons (pe_slice sl_tupA (pv 5) po_none (po_some (pe_un un_neg pe_int))) pa_nil))) (pa_cons (pe_tup (pa_cons pe_str (pa_cons (pe_op op_catA (pv 5) (pe_tup (pa_cons (pe_ix ix_tup (pv 2) pe_int (fun _ _ => rfl)) pa_nil))) pa_nil))) (pa_cons (pe_tup (pa_cons (pe_lst pa_nil) (pa_cons pe_int pa_nil))) pa_nil)))))))
      (pss_cons (ps_set (i := 7) sc__law_papers.nd rfl (.inl rfl) (pe_op op_cat (pv 7) (pe_lc (own := [("_law_odd", 11)]) (g := (gName 11)) (by rfl) sc__law_papers.nd (pi_list (pe_lst (pa_cons (pe_un un_neg pe_int) (pa_cons (pe_ix ix_tup (pv 2) pe_int (fun _ _ => rfl)) (pa_cons pe_non (pa_cons pe_str (pa_cons (pe_tup (pa_cons pe_int pa_nil)) pa_nil))))))) (blkOk_by (own := [("_law_odd", 11)]) (N := ["_law_purse_here", "_law_signature_here", "_law_one", "_law_other", "_law_told_here", "_law_order_here", "_law_truths", "_law_some_here", "_law_k", "_law_tree_here", "_law_number", "_law_odd"]) (sc := (defScope s__law_papers)) (by decide +kernel)) (fun _ _ _ _ _ => (pg_name (i := 11) sc__law_papers.nd rfl (.inl rfl))) (fun _ _ _ _ _ => pts_nil) (fun _ _ _ _ _ => (pe_tup (pa_cons pe_str (pa_cons (pe_op (op_catAK K) (pe_slice (sl_tupAK K) (pv 5) po_none (po_some (pe_un un_neg pe_int))) (pe_tup (pa_cons (pv 11) pa_nil))) pa_nil)))))))
      (pss_cons (ps_set (i := 7) sc__law_papers.nd rfl (.inl rfl) (pe_op op_cat (pv 7) (pe_lst (pa_cons pe_non (pa_cons (pe_tup pa_nil) (pa_cons (pe_lst (pa_cons pe_str pa_nil)) (pa_cons (pe_tup (pa_cons pe_str (pa_cons pe_int pa_nil))) (pa_cons (pe_tup (pa_cons pe_str (pa_cons (pe_tup pa_nil) pa_nil))) (pa_cons (pe_tup (pa_cons pe_str pa_nil)) (pa_cons (pe_tup (pa_cons pe_str (pa_cons (pe_op op_repTE (pe_tup (pa_cons pe_bl pa_nil)) (pe_ix ix_tup (pv 2) pe_int (fun _ _ => rfl))) pa_nil))) pa_nil))))))))))
      (pss_cut (ps_for PassesOwn.never (by rfl) (pi_range1 (by rfl) T.z_range (pa_cons pe_int pa_nil)) (pg_name (i := 8) sc__law_papers.nd rfl (.inl rfl))
        (pss_cons (ps_set (i := 9) sc__law_papers.nd rfl (.inl rfl) (pe_cl c_tree hr (by first | decide | omega) (by rfl) (pa_cons (pv 0) (pa_cons (pv 1) (pa_cons (pe_ix ix_tup (pv 2) pe_int (fun _ _ => rfl)) (pa_cons pe_int (pa_cons pe_int pa_nil)))))))
        (pss_one (ps_set (i := 7) sc__law_papers.nd rfl (.inl rfl) (pe_op op_cat (pv 7) (pe_lst (pa_cons (pe_tup (pa_cons pe_str (pa_cons (pv 9) pa_nil))) (pa_cons (pe_tup (pa_cons pe_str (pa_cons (pe_cl c_bent hr (by first | decide | omega) (by rfl) (pa_cons (pv 0) (pa_cons (pv 1) (pa_cons (pv 9) pa_nil)))) pa_nil))) pa_nil))))))))
      (pss_cut (ps_if (pt_cmpR op_eq (pe_ix ix_tup (pv 4) pe_int (fun _ _ => rfl)) pe_str (nomark _))
        (pss_one (ps_set (i := 7) sc__law_papers.nd rfl (.inl rfl) (pe_op op_cat (pv 7) (pe_lc (own := [("_law_k", 8)]) (g := (gName 8)) (by rfl) sc__law_papers.nd (pi_range1 (by rfl) T.z_range (pa_cons pe_int pa_nil)) (blkOk_by (own := [("_law_k", 8)]) (N := ["_law_purse_here", "_law_signature_here", "_law_one", "_law_other", "_law_told_here", "_law_order_here", "_law_truths", "_law_some_here", "_law_k", "_law_tree_here", "_law_number", "_law_odd"]) (sc := (defScope s__law_papers)) (by decide +kernel)) (fun _ _ _ _ _ => (pg_name (i := 8) sc__law_papers.nd rfl (.inl rfl))) (fun _ _ _ _ _ => pts_nil) (fun _ _ _ _ _ => (pe_tup (pa_cons pe_str (pa_cons (pe_cl c_bent hr (by first | decide | omega) (by rfl) (pa_cons (pv 0) (pa_cons (pv 1) (pa_cons (pe_ix (ix_tupK K) (pv 4) pe_int (fun _ _ => rfl)) pa_nil)))) pa_nil))))))))
        pss_nil)
      (pss_one (ps_ret (pv 7)))))))))))), ?_⟩
    obtain ⟨va, vt, rfl, hva, hvt⟩ := id hm.2
    have n1 : 1 ≤ p1.2.1 := MdlOk.n1 (show MdlOk p1.1 p1.2.1 p1.2.2 from pr.ok.2)
    refine q_asgP (P := fun v H' => LkV K H H' v p1 p2) (ep_callG (p1, p2) (ea_cons (ev_var rfl) (ea_cons (ev_var rfl) (ea_cons (ev_var rfl) ea_nil))) (fun H1 e1 => ⟨⟨_, _, _, rfl, hm.ex e1, hw.ex e1⟩, pr⟩) (fun H1 v H2 e1 e2 h => LkV.back e1 h)) fun told H1 e1 htold => ?_
    obtain ⟨ta, ts, xs, rfl, hta, hpp, hnone⟩ := told_of pr n4 e1 pu htold
    have pu1 := pu.ex e1
    show tSeq _ _ _ [some (.ref p), some u, some (.ref va), some x, some (.ref ta), none, none, none, none, none, none, none] H1
    have size : ∀ {σ : L2.St} {H2 : Hp}, σ[2]? = some (some (.ref va)) → ET K H H2 → Ev (tOp (rIxT K) (tVar 2) (tC (.int 0))) σ H2 (vi p1.2.1) := fun h2 et => ev_op (ev_var h2) ev_c (rv_ixT (K := K) (et _ _ hva) (atI_vi (k := 0) rfl))
    refine do_set (do_cons (do_ev (ev_var rfl) fun H2 e2 => do_cons (do_ev (size rfl (Dw.Ex.et (e1.trans e2))) fun H3 e3 => do_nil ?_)))
    have e23 := e2.trans e3
    refine ⟨p, c, t, p1.2.1, rfl, pu1.ex e23, by omega, by omega, fun ov o H4 o4 pu4 ho oo => ?_⟩
    have o14 : Off H1 H4 p c := (Off.of_ex e23).trans o4
    have et4 : ET K H H4 := (Dw.Ex.et e1).trans (o14.et pu1)
    obtain ⟨oa, ob, rfl, hob, hdict⟩ := id ho
    have hoa : SqT K H4 oa (o.map vi) := by
      obtain ⟨a', q1, s⟩ := FNats.nats (K := K) ho
      cases q1
      exact s
    have lo : o.length = p1.2.1 := oo.len
    have low : ∀ i ∈ o, i < p1.2.1 := fun i hi => (bg_ord.mpr oo).low i hi
    show tSeq _ _ _ [some (.ref p), some u, some (.ref va), some x, some (.ref ta), some (.ref oa), none, none, none, none, none, none] H4
    have trp : EvL (tLc (iTup K (tVar 5)) (gName 10) tYes (tOp (rIxL K) (tLst (tCons (tVar 10) (tCons (tOp rEq (tVar 10) (tC (.int 1))) tNil))) (tCB rInt1 (tCons (tOp (rI0 fun i j => .bl (decide (i < j))) (tVar 10) (tC (.int 2))) tNil))) [10]) [some (.ref p), some u, some (.ref va), some x, some (.ref ta), some (.ref oa), none, none, none, none, none, none] H4 ((List.range (o.map vi).length).map fun i => trv (o.getD i 0)) := el_lcT (K := K) (j := 10) (vs := [10]) (ev_var rfl) hoa (fun i => trv (o.getD i 0)) (by rw [List.length_map]; omega) (fun _ => rfl) (fun i x H9 e9 hx => by
      rw [List.getElem?_map] at hx
      cases hn : o[i]? with
      | none => rw [hn] at hx; cases hx
      | some n =>
      rw [hn] at hx
      cases Option.some.inj hx
      have en : o.getD i 0 = n := by rw [List.getD_eq_getElem?_getD, hn]; rfl
      rw [en]
      intro H10 e10 Q10 q10
      refine do_op (el_lst (vs := [vi n, .bl (decide (n = 1))]) (ea_cons (ev_var rfl) (ea_cons (ev_is (ev_op (ev_var rfl) ev_c (rv_eq rfl)) (congrArg V.bl (vi_eq (a := n) (b := 1)))) ea_nil)) (by show 2 ≤ 100000; decide) H10 e10 _ fun l H11 nl e11 hl => ev_intB (b := decide (n < 2)) (ev_ltM (b := 2) (ev_var rfl) ev_c) H11 (e10.trans e11) _ fun H12 e12 => ⟨l, _, _, trv n, rfl, rfl, sq_of (e12 _ _ hl), ?_, q10 H12 (e11.trans e12)⟩)
      unfold trv
      by_cases z : n < 2
      · rw [decide_eq_true z, if_pos rfl, if_pos z]
        rfl
      · rw [decide_eq_false z, if_neg (by decide), if_neg z]
        rfl)
    have er2 : ((List.range (o.map vi).length).map fun i => trv (o.getD i 0)) = o.map trv := by
      have z := Dw.range_getD (0 : Nat) o
      conv => rhs; rw [← z]
      rw [List.map_map, List.length_map]
      rfl
    rw [er2] at trp
    refine do_set (do_cb (do_cons (trp H4 (Ex.refl _) _ fun D5 H5 nD e5 hD => do_nil ⟨D5, _, rfl, .inl ⟨sq_of hD, fun rt nrt => ?_⟩⟩)))
    have e46 : Ex H4 (upd H5 rt (.tup (o.map trv))) := e5.trans (Ex.new nrt)
    have hrt : (upd H5 rt (.tup (o.map trv))) rt = some (.tup (o.map trv)) := upd_same
    generalize upd H5 rt (.tup (o.map trv)) = H6 at *
    have pu6 := pu4.ex e46
    have et6 : ET K H H6 := et4.trans (Dw.Ex.et e46)
    have hoa6 := ex_t e46 hoa
    have hpp6 : Pp K p c (.ref ta) H6 := (DzP.off pu1 o14 hpp).ex e46
    have hta6 : SqT K H6 ta (.str ts :: xs) := ex_t e46 (o14.et pu1 _ _ hta)
    have go : Gd 1 66 (dN o) := gd_tup (k := 0) (W := 10) (L := 6) (fun d hd => by
      obtain ⟨i, hi, rfl⟩ := List.mem_map.mp hd
      exact gd_int (n := i) (by have := low i hi; omega)) (by rw [List.length_map]; omega)
    have tdo : ∀ {H7 : Hp}, Ex H6 H7 → TD K p c (o.map intD) (.ref oa) H7 := fun e => nats_td ⟨oa, rfl, ex_t e hoa6⟩
    have trq : ∀ (H7 : Hp) (ns : List Nat), DzAll K p c H7 (ns.map trv) (ns.map trd) := fun H7 ns => by
      induction ns with
      | nil => exact .nil
      | cons n ns ih =>
        refine .cons ?_ ih
        unfold trv trd
        by_cases z : n < 2
        · rw [if_pos z, if_pos z]
          exact .bl _
        · rw [if_neg z, if_neg z]
          exact .int _
    have gw : ∀ {z : Str} (k' : Nat), (PyData.str z).canLay0 = true → z.cps.size ≤ 5 → Gd k' 5 (.str z) := fun k' a b => (gd_word a b).mono (Nat.zero_le _) (Nat.le_refl _)
    have gmap : ∀ k', Gd k' 5 (.str "map") := fun k' => gw k' (by decide +kernel) (by decide +kernel)
    have gi : ∀ (k' n : Nat), n ≤ 1000 → Gd k' 10 (.int ((n : Nat) : Int)) := fun k' n hn => (gd_int (n := n) hn).mono (Nat.zero_le _) (Nat.le_refl _)
    have gneg : Gd 0 10 (.int (-1)) := ⟨by rw [PyData.canLay0], by rw [PyData.depth]; omega, by rw [PyData.weight]; decide, by rw [PyData.intsShort]; decide +kernel, by rw [PyData.showable]; decide +kernel⟩
    have ge : Gd 1 0 (.tuple []) := gd_tup (k := 0) (W := 0) (L := 0) (fun d hd => by cases hd) (Nat.le_refl 0)
    have gel : Gd 1 0 (.list []) := gd_lst (k := 0) (W := 0) (L := 0) (fun d hd => by cases hd) (Nat.le_refl 0)
    have k1 : ∀ {σ : L2.St} {H6 : Hp} {te : TE} {d : PyData}, EvP te σ H6 (fun v H' => Dz K p c H' v d) → Gd 50 30000 d → EvP te σ H6 (Pp K p c) := fun h b => h.imp fun _ _ _ z => ⟨_, z, b⟩
    have one1 : ∀ {σ : L2.St} {H6 : Hp} {ta : TE} {a : PyData}, EvP ta σ H6 (fun v H' => Dz K p c H' v a) → EvP (tTup (tCons ta tNil)) σ H6 (fun v H' => Dz K p c H' v (.tuple [a])) := fun h1 => dz_tup (eds_cons h1 eds_nil) (by show 1 ≤ 100000; decide)
    have two2 : ∀ {σ : L2.St} {H6 : Hp} {ta tb : TE} {a b : PyData}, EvP ta σ H6 (fun v H' => Dz K p c H' v a) → EvP tb σ H6 (fun v H' => Dz K p c H' v b) → EvP (tTup (tCons ta (tCons tb tNil))) σ H6 (fun v H' => Dz K p c H' v (.tuple [a, b])) := fun h1 h2 => dz_tup (eds_cons h1 (eds_cons h2 eds_nil)) (by show 2 ≤ 100000; decide)
    have st : ∀ v H H', Ex H H' → Pp K p c v H → Pp K p c v H' := DzP.st
    have gpr : ∀ {k W : Nat} {d : PyData}, Gd k W d → k ≤ 40 → W ≤ 29000 → Gd 50 30000 (.tuple [.str "map", d]) := fun {k W d} g hk hW => (gd_pair (gmap k) g).mono (by omega) (by omega)
    show tSeq _ _ _ [some (.ref p), some u, some (.ref va), some x, some (.ref ta), some (.ref oa), some (.ref rt), none, none, none, none, none] H6
    refine q_asgP (P := LsR (Pp K p c) p c 6) (ep_lstR (n := 6) st (eas_cons st (ep_ev (ev_var rfl) fun _ e => DzP.ex e hpp6)
      (eas_cons st (k1 (one1 (dz_str (x := "size") ev_c)) ((gd_tup (k := 0) (W := 5) (L := 1) (fun d hd => by rw [List.mem_singleton.mp hd]; exact gw 0 (by decide +kernel) (by decide +kernel)) (Nat.le_refl _)).mono (by decide) (by decide)))
      (eas_cons st (k1 (two2 (dz_str (x := "map") ev_c) (td_dz (td_ev (ev_var rfl) (tdo (Ex.refl _))))) (gpr go (by decide) (by decide)))
      (eas_cons st (k1 (two2 (dz_str (x := "map") ev_c) (fun H1 e1 Q1 q1 => el_lrg (size rfl et6) (by omega) H1 e1 _ fun l H2 nl e2 hl => q1 _ H2 e2 (by
          obtain ⟨lp, lc⟩ := (pu6.ex e1).fresh nl
          have := (nats_td (K := K) (p := p) (c := c) (H := upd H2 l (.tup ((List.range p1.2.1).map vi))) (ns := List.range p1.2.1) ⟨l, rfl, st_of upd_same⟩)
          exact .lst (ds := (List.range p1.2.1).map intD) hl lp lc (by
            have : ∀ ns : List Nat, DzAll K p c H2 (ns.map vi) (ns.map intD) := fun ns => by
              induction ns with
              | nil => exact .nil
              | cons n ns ih => exact .cons (.int _) ih
            exact this _)))) (gpr (gd_lst (k := 0) (W := 10) (L := 4) (fun d hd => by
          obtain ⟨i, hi, rfl⟩ := List.mem_map.mp hd
          exact gi 0 i (by have := List.mem_range.mp hi; omega)) (by rw [List.length_map, List.length_range]; exact n4)) (by decide) (by decide)))
      (eas_cons st (k1 (two2 (dz_str (x := "map") ev_c) (dz_non ev_c)) (gpr (gd_non (k := 0) (W := 0)) (by decide) (by decide)))
      (eas_cons st (k1 (two2 (dz_str (x := "map") ev_c) (dz_ev (ev_var rfl) (.tup (st_of hrt) (trq _ o)))) (gpr (gd_truths go) (by decide) (by decide))) eas_nil)))))) (by decide) pu6) fun l1 H7 e7 hl1 => ?_
    have pu7 := pu6.ex e7
    show tSeq _ _ _ [some (.ref p), some u, some (.ref va), some x, some (.ref ta), some (.ref oa), some (.ref rt), some l1, none, none, none, none] H7
    have et7 : ET K H H7 := et6.trans (Dw.Ex.et e7)
    have lod : (o.map intD).length = p1.2.1 := by rw [List.length_map]; exact lo
    have goA : GdA 0 66 (o.map intD) := gd_invT (k := 0) (ds := o.map intD) go
    have gz : ∀ {d : PyData}, Gd 0 10 d → Gd 1 44 (.tuple (List.replicate p1.2.1 d)) := fun {d} hd => gd_tup (k := 0) (W := 10) (L := 4) (fun d' hd' => by rw [(List.mem_replicate.mp hd').2]; exact hd) (by rw [List.length_replicate]; exact n4)
    refine q_asgP (P := LsR (Pp K p c) p c 10) (ep_catR (n1 := 6) (n2 := 4) st (ep_ev (ev_var rfl) fun _ e => LsR.ex st e hl1) (ep_lstR (n := 4) st (eas_cons st (k1 (two2 (dz_str (x := "map") ev_c) (dz_reps (v := .int 0) (d := .int 0) (by omega) ev_c (fun _ => .int 0) (size rfl et7))) (gpr (gz (gi 0 0 (by decide))) (by decide) (by decide)))
      (eas_cons st (k1 (two2 (dz_str (x := "map") ev_c) (td_dz (td_last (td_ev (ev_var rfl) (tdo e7)) (by omega) ev_neg1))) (gpr (gd_tupA (gda_take _ goA)) (by decide) (by decide)))
      (eas_cons st (k1 (two2 (dz_str (x := "map") ev_c) (td_dz (td_cat (td_ev (ev_var rfl) (tdo e7)) (td_tup (eds_cons (dz_nat (size rfl et7)) eds_nil) (by show 1 ≤ 100000; decide)) (by show (o.map intD).length + 1 ≤ 100000; omega)))) (gpr (gd_tupA (gda_app goA (gda_one (gi 0 p1.2.1 (by omega))))) (by decide) (by decide)))
      (eas_cons st (k1 (two2 (dz_lst eds_nil (by show 0 ≤ 100000; decide) pu7) (dz_int (i := 1) ev_c)) ((gd_pair gel (gi 1 1 (by decide))).mono (by decide) (by decide))) eas_nil)))) (by decide) pu7) (by decide) pu7) fun l2 H8 e8 hl2 => ?_
    have pu8 := pu7.ex e8
    have et8 : ET K H H8 := et7.trans (Dw.Ex.et e8)
    have tqo : TQ K FT (o.map intD) (.ref oa) H8 := ⟨_, ⟨oa, rfl, ex_t (e7.trans e8) hoa6⟩, fun S' _ => dq_nats o, by rw [List.length_map, List.length_map]⟩
    show tSeq _ _ _ [some (.ref p), some u, some (.ref va), some x, some (.ref ta), some (.ref oa), some (.ref rt), some l2, none, none, none, none] H8
    have kq : ∀ {σ : L2.St} {H6 : Hp} {te : TE} {d : PyData}, EvP te σ H6 (fun v H' => Aq K FT H' v d) → Gd 1 20 d → EvP te σ H6 (AqP K FT (Gd 1 20)) := fun h b => h.imp fun _ _ _ z => ⟨_, b, z⟩
    have stq : ∀ v H H', Ex H H' → AqP K FT (Gd 1 20) v H → AqP K FT (Gd 1 20) v H' := AqP.st
    refine q_asgP (P := LsR (Pp K p c) p c 15) (ep_catR (n1 := 10) (n2 := 5) st (ep_ev (ev_var rfl) fun _ e => LsR.ex st e hl2) (ep_lcP (R0 := AqP K FT (Gd 1 20)) (φ := Gd 50 30000) stq (fun _ _ _ e h => AqP.et e h) (ep_lstR (n := 5) stq (eas_cons stq (kq (aq_int (i := -1) ev_neg1) (gneg.mono (by decide) (by decide)))
      (eas_cons stq (kq (aq_int (i := ((p1.2.1 : Nat) : Int)) (size rfl et8)) ((gi 1 p1.2.1 (by omega)).mono (by decide) (by decide)))
      (eas_cons stq (kq (aq_non ev_c) gd_non)
      (eas_cons stq (kq (aq_str (x := "0") ev_c) ((gw 1 (by decide +kernel) (by decide +kernel)).mono (by decide) (by decide)))
      (eas_cons stq (kq (aq_tup (eqs_cons (aq_int (i := 0) ev_c) eqs_nil) (by show 1 ≤ 100000; decide)) ((gd_tup (k := 0) (W := 10) (L := 1) (fun d hd => by rw [List.mem_singleton.mp hd]; exact gi 0 0 (by decide)) (Nat.le_refl _)).mono (by decide) (by decide))) eas_nil))))) (by decide) pu8) (by decide) pu8 (fun _ => rfl) (fun x' H9 e9 ⟨d, gd, hd⟩ => (aq_tup (eqs_cons (aq_str (x := "map") ev_c) (eqs_cons (tq_aq (tq_cat (tq_last (tq_ev (ev_var rfl) (tqo.ex e9)) (by omega) ev_neg1) (tq_tup (eqs_cons (aq_ev (ev_var rfl) hd) eqs_nil) (by show 1 ≤ 100000; decide)) (by rw [List.length_take]; show _ + 1 ≤ 100000; omega))) eqs_nil)) (by show 2 ≤ 100000; decide)).imp fun _ _ _ z => ⟨_, gpr (gd_tupA (gda_app ((gda_take _ goA).mono (k' := 1) (by decide) (Nat.le_refl _)) (gda_one gd))) (by decide) (by decide), z⟩)) (by decide) pu8) fun l3 H9 e9 hl3 => ?_
    have pu9 := pu8.ex e9
    have et9 : ET K H H9 := et8.trans (Dw.Ex.et e9)
    show tSeq _ _ _ [some (.ref p), some u, some (.ref va), some x, some (.ref ta), some (.ref oa), some (.ref rt), some l3, none, none, none, none] H9
    have gsz : ∀ k', Gd k' 5 (.str "size") := fun k' => gw k' (by decide +kernel) (by decide +kernel)
    have gno : ∀ k', Gd k' 5 (.str "none") := fun k' => gw k' (by decide +kernel) (by decide +kernel)
    refine q_asgP (P := LsR (Pp K p c) p c 22) (ep_catR (n1 := 15) (n2 := 7) st (ep_ev (ev_var rfl) fun _ e => LsR.ex st e hl3) (ep_lstR (n := 7) st (eas_cons st (k1 (dz_non ev_c) gd_non)
      (eas_cons st (k1 (dz_tup eds_nil (by show 0 ≤ 100000; decide)) (ge.mono (by decide) (by decide)))
      (eas_cons st (k1 (dz_lst (eds_cons (dz_str (x := "size") ev_c) eds_nil) (by show 1 ≤ 100000; decide) pu9) ((gd_lst (k := 0) (W := 5) (L := 1) (fun d hd => by rw [List.mem_singleton.mp hd]; exact gsz 0) (Nat.le_refl _)).mono (by decide) (by decide)))
      (eas_cons st (k1 (two2 (dz_str (x := "size") ev_c) (dz_int (i := 1) ev_c)) ((gd_pair (gsz 0) (gi 0 1 (by decide))).mono (by decide) (by decide)))
      (eas_cons st (k1 (two2 (dz_str (x := "maps") ev_c) (dz_tup eds_nil (by show 0 ≤ 100000; decide))) ((gd_pair (gw 1 (by decide +kernel) (by decide +kernel)) ge).mono (by decide) (by decide)))
      (eas_cons st (k1 (one1 (dz_str (x := "none") ev_c)) ((gd_tup (k := 0) (W := 5) (L := 1) (fun d hd => by rw [List.mem_singleton.mp hd]; exact gno 0) (Nat.le_refl _)).mono (by decide) (by decide)))
      (eas_cons st (k1 (two2 (dz_str (x := "map") ev_c) (dz_reps (v := .bl true) (d := .bool true) (by omega) ev_c (fun _ => .bl true) (size rfl et9))) (gpr (gz (gd_bo true)) (by decide) (by decide))) eas_nil))))))) (by decide) pu9) (by decide) pu9) fun l4 H10 e10 hl4 => ?_
    have pu10 := pu9.ex e10
    have et10 : ET K H H10 := et9.trans (Dw.Ex.et e10)
    show tCut _ _ _ [some (.ref p), some u, some (.ref va), some x, some (.ref ta), some (.ref oa), some (.ref rt), some l4, none, none, none, none] H10
    have o10 : Off H H10 p c := ((Off.of_ex e1).trans o14).trans (.of_ex ((((e46.trans e7).trans e8).trans e9).trans e10))
    have occ : ∀ {H' : Hp} {t' : Nat}, Pur H' p c t' → ∀ b, (b = p ∨ b = c) → H' b ≠ none := fun {H' t'} pu' b hb => by
      rcases hb with z | z
      · rw [z, pu'.1]; exact fun z => by cases z
      · obtain ⟨cs, _, _, hcs⟩ := pu'.2
        rw [z, hcs]; exact fun z => by cases z
    have w3 : wb 3 ≤ 10000 := wb_4 (by decide)
    have wn : wb p1.2.1 ≤ 10000 := wb_4 n4
    have tc3 : tc 3 = 340 := by decide
    refine q_cut (M := fun σ' H' => ∃ (t' : Nat) (l : V) (y8 y9 : Option V), σ' = [some (.ref p), some u, some (.ref va), some x, some (.ref ta), some (.ref oa), some (.ref rt), some l, y8, y9, none, none] ∧ Off H10 H' p c ∧ Pur H' p c t' ∧ t' ≤ t + 1300 ∧ LsR (Pp K p c) p c 28 l H') ?_ (fun σ' H' hM => ?_)
    · refine s_forR1 (n := ((3 : Nat) : Int)) (ea_cons ev_c ea_nil) ⟨by decide, by decide⟩ (fun i σ' H' => ∃ (t' : Nat) (l : V) (y8 y9 : Option V), σ' = [some (.ref p), some u, some (.ref va), some x, some (.ref ta), some (.ref oa), some (.ref rt), some l, y8, y9, none, none] ∧ Off H10 H' p c ∧ Pur H' p c t' ∧ t' ≤ t + 4 + 400 * i ∧ LsR (Pp K p c) p c (22 + 2 * i) l H') (fun H11 e11 => ⟨t + p1.2.1, l4, none, none, rfl, .of_ex e11, pu10.ex e11, by omega, LsR.ex st e11 hl4⟩) (fun i σ' H11 hi y => ?_) (fun σ' H11 y => ?_)
      · obtain ⟨t', l, y8, y9, rfl, o11, pu11, l11, hl⟩ := y
        have i3 : i < 3 := by omega
        have et11 : ET K H H11 := (o10.trans o11).et pu
        show tSeq _ _ _ [some (.ref p), some u, some (.ref va), some x, some (.ref ta), some (.ref oa), some (.ref rt), some l, some (.int (i : Int)), y9, none, none] H11
        refine do_set (do_cons (do_ev (ev_var rfl) fun Ha ea => do_cons (do_ev (ev_var rfl) fun Hb eb => do_cons (do_ev (size rfl (et11.trans (Dw.Ex.et (ea.trans eb)))) fun Hc ec => do_cons (do_ev ev_c fun Hd ed => do_cons (do_ev ev_c fun He ee => do_nil ?_))))))
        have e1e := (((ea.trans eb).trans ec).trans ed).trans ee
        refine ⟨p, c, t', p1.2.1, 0, u, p1.1, rfl, pu11.ex e1e, by omega, (hm.1.et et11).ex e1e, pr.ok.1, n4, Nat.zero_le _, fun tv T' t2 H12 o12 pu12 l12 dq12 ok12 => ?_⟩
        have o1112 : Off H11 H12 p c := (Off.of_ex e1e).trans o12
        have dqt := dq12 (fun b => b = p ∨ b = c) (occ (pu11.ex e1e))
        obtain ⟨la, xa, rfl, hla, lap, lac, lna, alla⟩ := LsR.off (fun v h => DzP.off pu11 o1112 h) o1112 hl
        have et12 : ET K H H12 := et11.trans (o1112.et pu11)
        show tAsg _ _ _ [some (.ref p), some u, some (.ref va), some x, some (.ref ta), some (.ref oa), some (.ref rt), some (.ref la), some (.int (i : Int)), some tv, none, none] H12
        refine do_asg (do_op (do_ev (ev_var rfl) fun Hf ef => do_lst (do_cons (two2 (dz_str (x := "none") ev_c) (dz_ev (ev_var rfl) (Dz.ofq dqt)) Hf ef _ fun v1 H13 e13 hv1 => do_cons (do_tup (do_cons (do_ev ev_c fun Hg eg => do_cons (do_cons (do_ev (ev_var rfl) fun Hh eh => do_cons (do_ev (ev_var rfl) fun Hi ei => do_cons (do_ev (ev_var rfl) fun Hj ej => do_nil ?_)))))))))))
        have e3j := ((eg.trans eh).trans ei).trans ej
        have e2j := (ef.trans e13).trans e3j
        refine ⟨p, c, t2, 7, wb 3, u, tv, p1.1, T', fun b => b = p ∨ b = c, rfl, pu12.ex e2j, by omega, (hm.1.et et12).ex e2j, pr.ok.1, dqt.ex e2j, occ (pu12.ex e2j), .inl rfl, .inr rfl, ok12.g, w3, by decide, TL_up ok12.tl, fun bv Db t3 H14 o14b pu14 l14 dq14 gd14 => do_nil ⟨by show 2 ≤ sizeLine; decide, fun r2 nr2 => do_nil ⟨by show 2 ≤ sizeLine; decide, fun lb nlb => ?_⟩⟩⟩
        have e5 : Ex H14 (upd (upd H14 r2 (.tup [.str "none", bv])) lb (.lst [v1, .ref r2])) := (Ex.new nr2).trans (Ex.new nlb)
        have hlb : (upd (upd H14 r2 (.tup [.str "none", bv])) lb (.lst [v1, .ref r2])) lb = some (.lst [v1, .ref r2]) := upd_same
        have hr2 : (upd (upd H14 r2 (.tup [.str "none", bv])) lb (.lst [v1, .ref r2])) r2 = some (.tup [.str "none", bv]) := Ex.new nlb _ _ upd_same
        generalize upd (upd H14 r2 (.tup [.str "none", bv])) lb (.lst [v1, .ref r2]) = H15 at *
        have o1215 : Off H12 H15 p c := ((Off.of_ex e2j).trans o14b).trans (.of_ex e5)
        have o1315 : Off H13 H15 p c := ((Off.of_ex e3j).trans o14b).trans (.of_ex e5)
        have pu15 := pu14.ex e5
        refine ⟨la, lb, xa, [v1, .ref r2], rfl, rfl, o1215 _ _ lap lac hla, hlb, sz_of (by show xa.length + 2 ≤ 100000; omega), fun r nr => ?_⟩
        obtain ⟨rp, rc⟩ := pu15.fresh nr
        refine ⟨t3, .ref r, some (.int (i : Int)), some tv, rfl, ((o11.trans o1112).trans o1215).trans (.of_ex (Ex.new nr)), pu15.ex (Ex.new nr), by omega, r, xa ++ [v1, .ref r2], rfl, upd_same, rp, rc, by rw [List.length_append]; show xa.length + 2 = _; omega, fun y hy => ?_⟩
        refine DzP.ex (Ex.new nr) ?_
        rcases List.mem_append.mp hy with m | m
        · exact DzP.off pu12 o1215 (alla y m)
        · rcases List.mem_cons.mp m with m | m
          · rw [m]
            exact ⟨_, hv1.off (pu12.ex (ef.trans e13)) o1315, (gd_pair (gno 8) ok12.g).mono (by decide) (by omega)⟩
          · rw [List.mem_singleton.mp m]
            exact ⟨.tuple [.str "none", Db], .tup (st_of hr2) (.cons (.str _) (.cons ((Dz.ofq dq14).ex e5) .nil)), (gd_pair (gno 12) gd14).mono (by decide) (by omega)⟩
      · obtain ⟨t', l, y8, y9, rfl, o11, pu11, l11, hl⟩ := y
        exact ⟨t', l, y8, y9, rfl, o11, pu11, Nat.le_trans (show t' ≤ t + 4 + 400 * 3 from l11) (by omega), hl⟩
    · obtain ⟨t8, l, y8, y9, rfl, o1011, pu11, l11, hl⟩ := hM
      have o11 := o10.trans o1011
      refine q_cut (M := fun σ' H' => ∃ (t' n : Nat) (l : V) (y8 y9 : Option V), σ' = [some (.ref p), some u, some (.ref va), some x, some (.ref ta), some (.ref oa), some (.ref rt), some l, y8, y9, none, none] ∧ Off H H' p c ∧ Pur H' p c t' ∧ t' ≤ t + 3000 ∧ n ≤ 100 ∧ LsR (Pp K p c) p c n l H') ?_ (fun σ' H' hM => ?_)
      · have o1h : Off H1 H' p c := (o14.trans (.of_ex ((((e46.trans e7).trans e8).trans e9).trans e10))).trans o1011
        have htah : SqT K H' ta (.str ts :: xs) := o1h.et pu1 _ _ hta
        refine s_when (b := decide (ts = "none")) (et_is (et_test (ev_op (ev_op (ev_var rfl) ev_c (rv_ixT (K := K) htah (atI_vi (k := 0) rfl))) ev_c (rv_eq rfl))) (by by_cases z : ts = "none" <;> simp [z])) (fun hb H12 e12 => ?_) (fun hb H12 e12 => ?_)
        · obtain ⟨z, T', rfl, dqz, okz⟩ := hnone (of_decide_eq_true hb)
          have pu12 := pu11.ex e12
          have o112 : Off H1 H12 p c := o1h.trans (.of_ex e12)
          have et12 : ET K H H12 := (o11.trans (.of_ex e12)).et pu
          have hta12 := ex_t e12 htah
          obtain ⟨la, xa, rfl, hla, lap, lac, lna, alla⟩ := LsR.ex st e12 hl
          have keepL : ∀ {A B : Hp}, Off A B p c → ∀ a us, ¬ (a = p ∨ a = c) → A a = some (.lst us) → B a = some (.lst us) := fun o a us n q => o a _ (fun z => n (.inl z)) (fun z => n (.inr z)) q
          have dz12 : Dq K (fun b => b = p ∨ b = c) H12 z (tD T') := (dqz (fun b => b = p ∨ b = c) (occ pu)).keep (keepL o112) (o112.et pu1) (fun _ z => z)
          refine do_asg (do_op (do_ev (ev_var rfl) fun Hf ef => ?_))
          have puf := pu12.ex ef
          refine do_lcIt walk_range (fun R r => w_rng (n := 3) (ea_cons ev_c ea_nil) (by decide) Hf (Ex.refl _) R r) (fun D i H' => Hf D = none ∧ Off Hf H' p c ∧ (∃ t', Pur H' p c t' ∧ t' ≤ t8 + 20 * i) ∧ ∃ ws : List V, H' D = some (.lst ws) ∧ ws.length = i ∧ ∀ y ∈ ws, ∃ d, Dq K (fun b => (b = p ∨ b = c) ∨ b = D) H' y d ∧ Gd 50 30000 d)
            (fun D H8 e8 nD => ⟨fresh_back e8 nD, .of_ex (e8.trans (Ex.new nD)), ⟨t8, puf.ex (e8.trans (Ex.new nD)), by omega⟩, [], upd_same, rfl, fun _ z => nomatch z⟩) (fun _ _ _ _ _ => trivial) (fun D i x9 H8 H9 hi ⟨nD, o8, ⟨t9, pu9', l9⟩, ws, hD, lk, each⟩ y => ?_) (fun D H8 ⟨nD, o8, ⟨t9, pu9', l9⟩, ws, hD, lk, each⟩ => ?_)
          · obtain ⟨rfl, rfl⟩ := y
            obtain ⟨Dp, Dc⟩ := puf.fresh nD
            have o129 : Off H12 H9 p c := (Off.of_ex ef).trans o8
            refine ⟨rfl, iteT (do_tup (do_cons (do_ev ev_c fun Hg eg => do_cons (do_cons (do_ev (ev_var rfl) fun Hh eh => do_cons (do_ev (ev_var rfl) fun Hi ei => do_cons (do_ev (ev_op (ev_var rfl) ev_c (rv_ixT (K := K) (ex_t ((eg.trans eh).trans ei) (o129.et pu12 _ _ hta12)) (atI_vi (k := 1) rfl))) fun Hj ej => do_nil ?_)))))))⟩
            have e9j := ((eg.trans eh).trans ei).trans ej
            have o9j : Off Hf Hj p c := o8.trans (.of_ex e9j)
            have dzj : Dq K (fun b => (b = p ∨ b = c) ∨ b = D) Hj z (tD T') := ((dz12.ex ef).add nD).keep (fun a us n q => keepL o9j a us (fun z => n (.inl z)) q) (o9j.et puf) (fun _ z => z)
            refine ⟨p, c, t9, 2 * p1.2.1 + 1, wb p1.2.1, u, z, p1.1, T', fun b => (b = p ∨ b = c) ∨ b = D, rfl, pu9'.ex e9j, by omega, (hm.1.et (et12.trans (Dw.Ex.et ef))).et (o9j.et puf), pr.ok.1, dzj, fun b hb => ?_, .inl (.inl rfl), .inl (.inr rfl), okz.g, wn, by omega, TL_le n4 okz.tl, fun bv Db t3 H14 o14b pu14 l14 dq14 gd14 => do_nil ⟨by show 2 ≤ sizeLine; decide, fun r2 nr2 => ?_⟩⟩
            · rcases hb with hb | hb
              · exact occ (pu9'.ex e9j) b hb
              · rw [hb, e9j _ _ hD]
                exact fun z => by cases z
            · have e5 : Ex H14 (upd H14 r2 (.tup [.str "none", bv])) := Ex.new nr2
              have hr2 : (upd H14 r2 (.tup [.str "none", bv])) r2 = some (.tup [.str "none", bv]) := upd_same
              generalize upd H14 r2 (.tup [.str "none", bv]) = H15 at *
              have o915 : Off H9 H15 p c := ((Off.of_ex e9j).trans o14b).trans (.of_ex e5)
              have hD15 := o915 _ _ Dp Dc hD
              have pu15 := pu14.ex e5
              have etU : ET K H15 (upd H15 D (.lst (ws ++ [.ref r2]))) := ET.refl.upd hD15
              have kpU : ∀ a us, ¬ ((a = p ∨ a = c) ∨ a = D) → H15 a = some (.lst us) → (upd H15 D (.lst (ws ++ [.ref r2]))) a = some (.lst us) := fun a us n q => by
                rw [upd_ne (fun z => n (.inr z))]
                exact q
              refine ⟨ws, hD15, sz_lt (by omega), nD, (o8.trans o915).upd nD, ⟨t3, pu15.upd Dp Dc, by omega⟩, ws ++ [.ref r2], upd_same, by rw [List.length_append, lk]; rfl, fun y hy => ?_⟩
              rcases List.mem_append.mp hy with m | m
              · obtain ⟨d, dd, gd⟩ := each y m
                exact ⟨d, (dd.keep (fun a us n q => keepL o915 a us (fun z => n (.inl z)) q) (o915.et pu9') (fun _ z => z)).keep kpU etU (fun _ z => z), gd⟩
              · rw [List.mem_singleton.mp m]
                exact ⟨.tuple [.str "none", Db], (Dq.tup (st_of hr2) (.cons (.str _) (.cons (dq14.ex e5) .nil))).keep kpU etU (fun _ z => z), (gd_pair (gno (2 * p1.2.1 + 1 + 5)) gd14).mono (by omega) (by omega)⟩
          · obtain ⟨Dp, Dc⟩ := puf.fresh nD
            have o128 : Off H12 H8 p c := (Off.of_ex ef).trans o8
            refine ⟨la, D, xa, ws, rfl, rfl, o128 _ _ lap lac hla, hD, sz_of (by omega), fun r nr => ?_⟩
            obtain ⟨rp, rc⟩ := pu9'.fresh nr
            refine ⟨t9, 31, .ref r, y8, y9, rfl, ((o11.trans (.of_ex e12)).trans o128).trans (.of_ex (Ex.new nr)), pu9'.ex (Ex.new nr), by omega, by decide, r, xa ++ ws, rfl, upd_same, rp, rc, by rw [List.length_append, lna, lk], fun y hy => ?_⟩
            refine DzP.ex (Ex.new nr) ?_
            rcases List.mem_append.mp hy with m | m
            · exact DzP.off pu12 o128 (alla y m)
            · obtain ⟨d, dd, gd⟩ := each y m
              exact ⟨d, dd.dz (.inl (.inl rfl)) (.inl (.inr rfl)), gd⟩
        · exact ⟨t8, 28, l, y8, y9, rfl, o11.trans (.of_ex e12), pu11.ex e12, by omega, by decide, LsR.ex st e12 hl⟩
      · obtain ⟨t9, n, l9, z8, z9, rfl, o12, pu12, l12, n100, hl9⟩ := hM
        exact s_ret (ev_var rfl) fun H13 e13 => q l9 n t9 H13 (o12.trans (.of_ex e13)) (pu12.ex e13) l12 n100 (LsR.ex st e13 hl9)
end
end K22
end
section
namespace K22
open PySem PySem.Spec PyProof.Rows L2 Evl RZ Dw M20 M25 CL LK LD
theorem odd_low {x y : MArg} (n6 : x.2.1 ≤ 6) : ∀ (k : Nat) (F q : List Nat) (t : PyData) (r : List Nat), (∀ i ∈ q, i ≤ 1000) → oddT x y k F q t = some r → (∀ i ∈ r, i ≤ 1000) ∧ r.length ≤ q.length + k
  | 0, F, q, t, r, lo, h => by
    rw [oddT] at h
    split at h
    · cases h
    · cases h
      exact ⟨lo, Nat.le_refl _⟩
  | k + 1, F, q, t, r, lo, h => by
    rw [oddT] at h
    split at h
    · rename_i hc
      obtain ⟨a, ks, rfl, _, lk, _⟩ := case_shape hc
      obtain ⟨e, he, h2⟩ := List.exists_of_findSome?_eq_some h
      unfold kids3 at he
      obtain ⟨i, hi, rfl⟩ := List.mem_map.mp he
      have il : i < ks.length := List.mem_range.mp hi
      obtain ⟨a1, a2⟩ := odd_low n6 k _ (q ++ [i]) _ r (fun j hj => by
        rcases List.mem_append.mp hj with z | z
        · exact lo j z
        · rw [List.mem_singleton.mp z]
          omega) h2
      rw [List.length_append, List.length_singleton] at a2
      exact ⟨a1, by omega⟩
    · split at h
      · cases h
      · cases h
        exact ⟨lo, by omega⟩
theorem gd_judged {x y : MArg} (n6 : x.2.1 ≤ 6) (d : PyData) : Gd 3 200 (judgedW x y d) := by
  have gw : ∀ {z : Str} (k' : Nat), (PyData.str z).canLay0 = true → z.cps.size ≤ 5 → Gd k' 5 (.str z) := fun k' a b => (gd_word a b).mono (Nat.zero_le _) (Nat.le_refl _)
  have one : ∀ {z : Str}, (PyData.str z).canLay0 = true → z.cps.size ≤ 5 → Gd 3 200 (.tuple [.str z]) := fun {z} a b => (gd_tup (k := 0) (W := 5) (L := 1) (fun d hd => by rw [List.mem_singleton.mp hd]; exact gw 0 a b) (Nat.le_refl _)).mono (by decide) (by decide)
  unfold judgedW
  split
  · split
    · exact one (by decide +kernel) (by decide +kernel)
    · split
      · exact one (by decide +kernel) (by decide +kernel)
      · split
        · cases h : oddT x y x.2.1 [] [] (snd d) with
          | none => exact gd_non
          | some q =>
            obtain ⟨lo, l⟩ := odd_low n6 _ _ _ _ _ (fun i z => by cases z) h
            rw [treeD]
            have g : Gd 1 66 (dN q) := gd_tup (k := 0) (W := 10) (L := 6) (fun d hd => by
              obtain ⟨i, hi, rfl⟩ := List.mem_map.mp hd
              exact gd_int (n := i) (lo i hi)) (by rw [List.length_map]; rw [List.length_nil] at l; omega)
            exact (gd_pair (gw (z := "tree") 1 (by decide +kernel) (by decide +kernel)) g).mono (by decide) (by decide)
        · exact gd_non
  · exact one (by decide +kernel) (by decide +kernel)
end K22
end
section
namespace K22
open PySem PySem.Spec PyProof.Rows L2 Evl RZ Dw M20 M25 CL LK
section
variable {P : Program} {w : World} {K : PySem.W.Frag} {mg : Str → Option Value} {base : Heap}
theorem dp_vars {σ : L2.St} {H : Hp} {ta : TA} {vs : List V} {ds : List PyData} (h : EvA ta σ H vs) (hz : ∀ H', Ex H H' → DpAll K H' vs ds) (l : vs.length ≤ 1000) : EvP (tLst ta) σ H (fun v H' => Dp K H' v (.list ds)) := fun H1 e Q q => do_lst (h H1 e _ fun H2 e2 => ⟨sz_of (by omega), fun l nl => q _ _ (e2.trans (Ex.new nl)) (.lst (sq_of upd_same) (hz _ ((e.trans e2).trans (Ex.new nl))))⟩)
theorem do_forC {tl : TE} {g : TG} {tu : TS} {D : Ends} {σ : L2.St} {H : Hp} (h : tl σ H fun x H1 => ∃ a, x = .ref a ∧ (∃ xs, SqL K H1 a xs) ∧ Loops (Itl K a) g tu D σ H1) : tFor (iList K tl) g tu D σ H := h
def Turn (a p c : Addr) (i : Nat) (σ : L2.St) (H : Hp) : Prop := (∃ t, Pur H p c t ∧ t ≤ 4500 * i) ∧ ∃ y2 y3 y4 y5 y6 y7 y8 y9, σ = [some (.ref a), some (.ref p), y2, y3, y4, y5, y6, y7, y8, y9]
theorem law_ok (T : Txt mg) (c_purse : Cl P w K mg base 1 "_law_purse" (sp_purse K)) (c_draw : Cl P w K mg base 1 "_law_draw" sp_draw) (c_signature : Cl P w K mg base 3 "_law_signature" (sp_signature K)) (c_model : Cl P w K mg base 4 "_law_model" (sp_model K)) (c_order : Cl P w K mg base 3 "_law_order" sp_order)
    (c_led : Cl P w K mg base 1 "_law_led" (sp_renamed K)) (c_turned : Cl P w K mg base 2 "_law_turned" (sp_turned K)) (c_papers : Cl P w K mg base 13 "_law_papers" (sp_papers K)) (c_likeness_judged : Cl P w K mg base 9 "likeness_judged" (sp_judged_any K)) (c_due : Cl P w K mg base 10 "_law_due" (sp_due K))
    (room : Room 14 callerA) (s : Shared) (H : Hp) (fa : Addr) (cdv : Value) (a : Addr) (ns : List Int) (len : ns.length ≤ 63) (seq : SqL K H a (ns.map V.int)) :
    ∃ t, PSs (cxOf CX0 P w K mg base ["_law_script", "_law_purse_here", "_law_time", "_law_signature_here", "_law_size", "_law_one", "_law_other", "_law_way_here", "_law_paper", "_law_kept"] "law" (defScope s_law) fa cdv callerA [] s H E0).nox (defBody s_law) t ∧ t { nx := fun _ _ => False, rt := fun v _ => v = .bl true } (start ["_law_script", "_law_purse_here", "_law_time", "_law_signature_here", "_law_size", "_law_one", "_law_other", "_law_way_here", "_law_paper", "_law_kept"] [.ref a]) H := by
  have hr : Room 13 (callerA.deeper (envOfC "law" (defScope s_law) s.heap.objs.size fa cdv)) := room.deeper _
  refine ⟨_, (pss_cons (ps_set (i := 1) sc_law.nd rfl (.inl rfl) (pe_cl c_purse hr (by first | decide | omega) (by rfl) (pa_cons (pv 0) pa_nil)))
      (pss_cons (ps_for PassesOwn.never (by rfl) (pi_range1 (by rfl) T.z_range (pa_cons pe_int pa_nil)) (pg_name (i := 2) sc_law.nd rfl (.inl rfl))
        (pss_cons (ps_set (i := 3) sc_law.nd rfl (.inl rfl) (pe_cl c_signature hr (by first | decide | omega) (by rfl) (pa_cons (pv 1) (pa_cons pe_int pa_nil))))
        (pss_cons (ps_set (i := 4) sc_law.nd rfl (.inl rfl) (pe_op op_add pe_int (pe_cl c_draw hr (by first | decide | omega) (by rfl) (pa_cons (pv 1) (pa_cons pe_int pa_nil)))))
        (pss_cons (ps_set (i := 5) sc_law.nd rfl (.inl rfl) (pe_cl c_model hr (by first | decide | omega) (by rfl) (pa_cons (pv 1) (pa_cons (pv 3) (pa_cons (pv 4) pa_nil)))))
        (pss_cons (ps_set (i := 6) sc_law.nd rfl (.inl rfl) (pe_cl c_led hr (by first | decide | omega) (by rfl) (pa_cons (pv 3) (pa_cons (pv 5) (pa_cons (pe_cl c_order hr (by first | decide | omega) (by rfl) (pa_cons (pv 1) (pa_cons (pv 4) pa_nil))) pa_nil)))))
        (pss_cons (ps_set (i := 7) sc_law.nd rfl (.inl rfl) (pe_cl c_draw hr (by first | decide | omega) (by rfl) (pa_cons (pv 1) (pa_cons pe_int pa_nil))))
        (pss_cut (ps_if (pt_cmpR op_eq (pv 7) pe_int (nomark _))
          (pss_one (ps_set (i := 6) sc_law.nd rfl (.inl rfl) (pe_cl c_turned hr (by first | decide | omega) (by rfl) (pa_cons (pv 1) (pa_cons (pv 3) (pa_cons (pv 6) pa_nil))))))
          pss_nil)
        (pss_cut (ps_if (pt_cmpR op_eq (pv 7) pe_int (nomark _))
          (pss_one (ps_set (i := 6) sc_law.nd rfl (.inl rfl) (pe_cl c_model hr (by first | decide | omega) (by rfl) (pa_cons (pv 1) (pa_cons (pv 3) (pa_cons (pv 4) pa_nil))))))
          pss_nil)
        (pss_cut (ps_if (pt_cmpR op_eq (pv 7) pe_int (nomark _))
          (pss_one (ps_set (i := 6) sc_law.nd rfl (.inl rfl) (pe_cl c_model hr (by first | decide | omega) (by rfl) (pa_cons (pv 1) (pa_cons (pv 3) (pa_cons (pe_op op_add pe_int (pe_cl c_draw hr (by first | decide | omega) (by rfl) (pa_cons (pv 1) (pa_cons pe_int pa_nil)))) pa_nil))))))
          pss_nil)
        (pss_one (ps_for PassesOwn.never (by rfl) (pi_list (pe_cl c_papers hr (by first | decide | omega) (by rfl) (pa_cons (pv 1) (pa_cons (pv 3) (pa_cons (pv 5) (pa_cons (pv 6) pa_nil)))))) (pg_name (i := 8) sc_law.nd rfl (.inl rfl))
          (pss_cons (ps_set (i := 9) sc_law.nd rfl (.inl rfl) (pe_callB (call_reprW hr) (by rfl) T.z_repr (by decide +kernel) (pa_cons (pe_lst (pa_cons (pv 3) (pa_cons (pv 5) (pa_cons (pv 6) (pa_cons (pv 8) pa_nil))))) pa_nil)))
          (pss_cons (ps_if (pt_cmpR (op_neD hr.units) (pe_cl c_likeness_judged hr (by first | decide | omega) (by rfl) (pa_cons (pv 3) (pa_cons (pv 5) (pa_cons (pv 6) (pa_cons (pv 8) pa_nil))))) (pe_cl c_due hr (by first | decide | omega) (by rfl) (pa_cons (pv 3) (pa_cons (pv 5) (pa_cons (pv 6) (pa_cons (pv 8) pa_nil))))) (nomark _))
            (pss_one (ps_ret pe_bl))
            pss_nil)
          (pss_one (ps_if (pt_cmpR op_ne (pe_callB (call_reprW hr) (by rfl) T.z_repr (by decide +kernel) (pa_cons (pe_lst (pa_cons (pv 3) (pa_cons (pv 5) (pa_cons (pv 6) (pa_cons (pv 8) pa_nil))))) pa_nil)) (pv 9) (nomark _))
            (pss_one (ps_ret pe_bl))
            pss_nil)))))))))))))))
      (pss_one (ps_ret pe_bl)))), ?_⟩
  refine do_set (ea_cons (ev_var rfl) ea_nil H (Ex.refl H) _ fun H0 e0 => ⟨a, ns, rfl, ex_l e0 seq, len, fun p c H1 e1 np nc pu => ?_⟩)
  refine q_forR1 (n := ((3 : Nat) : Int)) (ea_cons ev_c ea_nil) ⟨by decide, by decide⟩ (Turn a p c) (fun H2 e2 => ⟨⟨0, pu.ex e2, Nat.zero_le _⟩, none, none, none, none, none, none, none, none, rfl⟩) (fun i σ H2 hi tn => ?_) (fun σ H2 tn => ?_)
  · obtain ⟨⟨t, pu2, lt⟩, y2, y3, y4, y5, y6, y7, y8, y9, hσ⟩ := tn
    subst hσ
    have i4 : i < 3 := by omega
    -- the signature
    refine do_set (ea_cons (ev_var rfl) (ea_cons (ev_c (v := vi 4)) ea_nil) H2 (Ex.refl H2) _ fun H3 e3 => ⟨p, c, t, rfl, pu2.ex e3, by omega, fun sv sg t4 H4 o4 pu4 l4 hG4 sok => ?_⟩)
    show tSeq _ _ _ [some (.ref a), some (.ref p), some (vi i), some sv, y4, y5, y6, y7, y8, y9] H4
    refine do_set (do_op (do_ev ev_c fun H5 e5 => do_draw (n := 4) (ev_var rfl) ev_c (pu4.ex e5) (by omega) (by decide) (by decide) fun k H6 hk o6 pu6 => ⟨1, (k : Int), rfl, rfl, ?_⟩))
    have o46 : Off H4 H6 p c := (Off.of_ex e5).trans o6
    obtain ⟨n, n1, n4, ek⟩ : ∃ n : Nat, 1 ≤ n ∧ n ≤ 4 ∧ V.int ((1 : Int) + (k : Int)) = vi n := ⟨k + 1, by omega, by omega, by
      show V.int _ = V.int (((k + 1 : Nat)) : Int)
      rw [Int.natCast_add, Int.add_comm]
      rfl⟩
    have n6 : n ≤ 6 := by omega
    show tSeq _ _ _ [some (.ref a), some (.ref p), some (vi i), some sv, some (V.int ((1 : Int) + (k : Int))), y5, y6, y7, y8, y9] H6
    rw [ek]
    · show tSeq _ _ _ [some (.ref a), some (.ref p), some (vi i), some sv, some (vi n), y5, y6, y7, y8, y9] H6
      have hG6 : Sig K H6 sv sg := hG4.et (o46.et pu4)
      -- the one
      refine do_set (ea_cons (ev_var rfl) (ea_cons (ev_var rfl) (ea_cons (ev_var rfl) ea_nil)) H6 (Ex.refl H6) _ fun H7 e7 => ⟨p, c, _, n, sv, sg, rfl, pu6.ex e7, by omega, n1, n6, hG6.ex e7, sok, fun mv ts t8 H8 o8 pu8 l8 hM8 mok => ?_⟩)
      have hG8 : Sig K H8 sv sg := (hG6.ex e7).et (o8.et (pu6.ex e7))
      show tSeq _ _ _ [some (.ref a), some (.ref p), some (vi i), some sv, some (vi n), some mv, y6, y7, y8, y9] H8
      clear hG4 hG6
      -- renamed
      refine do_set (do_cons (do_ev (ev_var rfl) fun H9 e9 => do_cons (do_ev (ev_var rfl) fun H10 e10 => do_cons (ea_cons (ev_var rfl) (ea_cons (ev_var rfl) ea_nil) H10 (Ex.refl _) _ fun H11 e11 => ⟨p, c, _, n, rfl, ((pu8.ex e9).ex e10).ex e11, by omega, n6, fun rv r H12 o12 pu12 hR12 rord => do_nil ?_⟩))))
      have e811 := (e9.trans e10).trans e11
      have et12 : ET K H8 H12 := ET.trans (Dw.Ex.et e811) (o12.et (pu8.ex e811))
      refine ⟨(sg, n, ts, r), ⟨⟨_, _, _, rfl, hG8.et et12, hM8.et et12, hR12.nats⟩, sok, mok, rord⟩, fun ov H13 e13 hov => ?_⟩
      replace hov : Mdl K H13 ov n (rens n r sg ts) := hov
      have o813 : Off H8 H13 p c := ((Off.of_ex e811).trans o12).trans (.of_ex e13)
      have pu13 := pu12.ex e13
      have mok2 := rens_ok mok sok rord
      show tSeq _ _ _ [some (.ref a), some (.ref p), some (vi i), some sv, some (vi n), some mv, some ov, y7, y8, y9] H13
      -- which way
      refine do_set (do_draw (n := 4) (ev_var rfl) ev_c pu13 (by omega) (by decide) (by decide) fun way H14 hway o14 pu14 => ?_)
      have o814 : Off H8 H14 p c := o813.trans o14
      have hov14 : Mdl K H14 ov n (rens n r sg ts) := hov.et (o14.et pu13)
      show tCut _ _ _ [some (.ref a), some (.ref p), some (vi i), some sv, some (vi n), some mv, some ov, some (vi way), y8, y9] H14
      have tst : ∀ {m : Nat} {σ : L2.St} {H' : Hp}, σ[7]? = some (some (vi way)) → EvT (tTest (tOp rEq (tVar 7) (tC (vi m)))) σ H' (decide (vi way = vi m)) := fun {m σ H'} h => et_test (ev_op (ev_var h) ev_c (rv_eq rfl))
      refine q_cut (M := fun σ H' => Off H8 H' p c ∧ (∃ t', Pur H' p c t' ∧ t' ≤ t8 + 20) ∧ ∃ ov n2 ts2, Mdl K H' ov n2 ts2 ∧ MdlOk sg n2 ts2 ∧ σ = [some (.ref a), some (.ref p), some (vi i), some sv, some (vi n), some mv, some ov, some (vi way), y8, y9]) ?_ (fun σ H15 ⟨o15, ⟨t15, pu15, l15⟩, ov2, n2, ts2, hov15, mok15, hσ⟩ => ?_)
      · refine s_when (tst rfl) (fun hb H15 e15 => ?_) (fun hb H15 e15 => ⟨o814.trans (.of_ex e15), ⟨_, pu14.ex e15, by omega⟩, ov, n, _, hov14.ex e15, mok2, rfl⟩)
        refine do_asg (ea_cons (ev_var rfl) (ea_cons (ev_var rfl) (ea_cons (ev_var rfl) ea_nil)) H15 (Ex.refl _) _ fun H16 e16 => ⟨p, c, _, n, sg, _, _, _, rfl, pu14.ex (e15.trans e16), by omega, hov14.ex (e15.trans e16), sok, mok2, fun v' ts' H' t' o' pu' l' hv' mk' => ?_⟩)
        exact ⟨(o814.trans (.of_ex (e15.trans e16))).trans o', ⟨t', pu', by omega⟩, v', n, ts', hv', mk', rfl⟩
      subst hσ
      have hG15 : Sig K H15 sv sg := hG8.et (o15.et pu8)
      refine q_cut (M := fun σ H' => Off H8 H' p c ∧ (∃ t', Pur H' p c t' ∧ t' ≤ t8 + 420) ∧ ∃ ov n2 ts2, Mdl K H' ov n2 ts2 ∧ MdlOk sg n2 ts2 ∧ σ = [some (.ref a), some (.ref p), some (vi i), some sv, some (vi n), some mv, some ov, some (vi way), y8, y9]) ?_ (fun σ H17 ⟨o17, ⟨t17, pu17, l17⟩, ov3, n3, ts3, hov17, mok17, hσ⟩ => ?_)
      · refine s_when (tst rfl) (fun hb H16 e16 => ?_) (fun hb H16 e16 => ⟨o15.trans (.of_ex e16), ⟨_, pu15.ex e16, by omega⟩, ov2, n2, _, hov15.ex e16, mok15, rfl⟩)
        refine do_asg (ea_cons (ev_var rfl) (ea_cons (ev_var rfl) (ea_cons (ev_var rfl) ea_nil)) H16 (Ex.refl _) _ fun H17 e17 => ⟨p, c, _, n, sv, sg, rfl, pu15.ex (e16.trans e17), by omega, n1, n6, hG15.ex (e16.trans e17), sok, fun v' ts' t' H' o' pu' l' hv' mk' => ?_⟩)
        exact ⟨(o15.trans (.of_ex (e16.trans e17))).trans o', ⟨t', pu', by omega⟩, v', n, ts', hv', mk', rfl⟩
      subst hσ
      have hG17 : Sig K H17 sv sg := hG8.et (o17.et pu8)
      refine q_cut (M := fun σ H' => Off H8 H' p c ∧ (∃ t', Pur H' p c t' ∧ t' ≤ t8 + 830) ∧ ∃ ov n2 ts2, Mdl K H' ov n2 ts2 ∧ MdlOk sg n2 ts2 ∧ σ = [some (.ref a), some (.ref p), some (vi i), some sv, some (vi n), some mv, some ov, some (vi way), y8, y9]) ?_ (fun σ H19 ⟨o19, ⟨t19, pu19, l19⟩, ov4, n4', ts4, hov19, mok19, hσ⟩ => ?_)
      · refine s_when (tst rfl) (fun hb H18 e18 => ?_) (fun hb H18 e18 => ⟨o17.trans (.of_ex e18), ⟨_, pu17.ex e18, by omega⟩, ov3, n3, _, hov17.ex e18, mok17, rfl⟩)
        refine do_asg (do_cons (do_ev (ev_var rfl) fun Ha ea => do_cons (do_ev (ev_var rfl) fun Hb eb => do_cons (do_op (do_ev ev_c fun Hc ec => do_draw (n := 4) (ev_var rfl) ev_c (((pu17.ex e18).ex (ea.trans eb)).ex ec) (by omega) (by decide) (by decide) fun k Hd hk od pud => ⟨1, (k : Int), rfl, rfl, do_nil ?_⟩)))))
        have en : V.int ((1 : Int) + (k : Int)) = vi (k + 1) := by
          show V.int _ = V.int (((k + 1 : Nat)) : Int)
          rw [Int.natCast_add, Int.add_comm]
          rfl
        have o7d : Off H17 Hd p c := (Off.of_ex ((e18.trans (ea.trans eb)).trans ec)).trans od
        refine ⟨p, c, _, k + 1, sv, sg, congrArg (fun z => [V.ref p, sv, z]) en, pud, by omega, by omega, by omega, hG17.et (o7d.et pu17), sok, fun v' ts' t' H' o' pu' l' hv' mk' => ?_⟩
        exact ⟨(o17.trans o7d).trans o', ⟨t', pu', by omega⟩, v', k + 1, ts', hv', mk', rfl⟩
      subst hσ
      have hG19 : Sig K H19 sv sg := hG8.et (o19.et pu8)
      have hM19 : Mdl K H19 mv n ts := hM8.et (o19.et pu8)
      have pr : Pair2 ((sg, n, ts) : MArg) ((sg, n4', ts4) : MArg) := ⟨⟨sok, mok⟩, ⟨sok, mok19⟩, rfl⟩
      show tFor (iList K (tCall (sp_papers K) [] E0 (tCons (tVar 1) (tCons (tVar 3) (tCons (tVar 5) (tCons (tVar 6) tNil)))))) _ _ _ [some (.ref a), some (.ref p), some (vi i), some sv, some (vi n), some mv, some ov4, some (vi way), y8, y9] H19
      refine do_forC ?_
      refine do_cons (do_ev (ev_var rfl) fun Ha ea => do_cons (do_ev (ev_var rfl) fun Hb eb => do_cons (do_ev (ev_var rfl) fun Hc ec => do_cons (do_ev (ev_var rfl) fun Hd ed => do_nil ?_))))
      have e9d := ((ea.trans eb).trans ec).trans ed
      refine ⟨p, c, t19, sv, mv, ov4, (sg, n, ts), (sg, n4', ts4), rfl, pu19.ex e9d, by omega, ⟨hG19.ex e9d, hM19.ex e9d⟩, hov19.ex e9d, pr, n4, fun r m t20 H20 o20 pu20 l20 hm hl => ?_⟩
      obtain ⟨la, xa, rfl, hla, lap, lac, lna, alla⟩ := hl
      have et20 : ET K H19 H20 := ((Off.of_ex e9d).trans o20).et pu19
      have hG20 := hG19.et et20
      have hM20 := hM19.et et20
      have hov20 := hov19.et et20
      refine ⟨la, rfl, ⟨xa, sq_of hla⟩, for_list (fun _ σ' H' => Ex H20 H' ∧ ∃ z8 z9, σ' = [some (.ref a), some (.ref p), some (vi i), some sv, some (vi n), some mv, some ov4, some (vi way), z8, z9]) ⟨Ex.refl _, y8, y9, rfl⟩ (fun j σ' H' _ y => sq_of (y.1 _ _ hla)) (fun j x σ' H' hx y => ?_) (fun σ' H' y => ?_)⟩
      · obtain ⟨e21, z8, z9, rfl⟩ := y
        obtain ⟨d, hd0, gd⟩ := alla x (List.mem_of_getElem? hx)
        have hd : Dz K p c H' x d := hd0.ex e21
        have hG21 := hG20.ex e21
        have hM21 := hM20.ex e21
        have hov21 := hov20.ex e21
        have gK : Gd 51 38000 (.list [dS sg, dM n ts, dM n4' ts4, d]) := (gd_lstA (gda_cons (sok.gd.mono (k' := 50) (by decide) (Nat.le_refl _)) (gda_cons ((mok.gd sok).mono (k' := 50) (by decide) (Nat.le_refl _)) (gda_cons ((mok19.gd sok).mono (k' := 50) (by decide) (Nat.le_refl _)) (gda_one gd))))).mono (by decide) (by decide)
        have all : ∀ H2, Ex H' H2 → DpAll K H2 [sv, mv, ov4, x] [dS sg, dM n ts, dM n4' ts4, d] := fun H2 e => .cons (hG21.ex e).dp (.cons (hM21.ex e).dp (.cons (hov21.ex e).dp (.cons (hd.ex e).dp .nil)))
        show tSeq _ _ _ [some (.ref a), some (.ref p), some (vi i), some sv, some (vi n), some mv, some ov4, some (vi way), some x, z9] H'
        refine q_asg (v := .str (PyData.list [dS sg, dM n ts, dM n4' ts4, d]).shown) (ev_reprW (K := K) rfl rfl (dp_vars (vs := [sv, mv, ov4, x]) (ea_cons (ev_var rfl) (ea_cons (ev_var rfl) (ea_cons (ev_var rfl) (ea_cons (ev_var rfl) ea_nil)))) all (by show 4 ≤ 1000; decide)) gK (by decide) (by decide)) fun H22 e22 => ?_
        show tSeq _ _ _ [some (.ref a), some (.ref p), some (vi i), some sv, some (vi n), some mv, some ov4, some (vi way), some x, some (.str (PyData.list [dS sg, dM n ts, dM n4' ts4, d]).shown)] H22
        refine q_when (b := false) (et_test (fun H1 e1 Q1 q1 => do_op (ep_call (((p, c), ((sg, n, ts) : MArg), ((sg, n4', ts4) : MArg), d) : (Addr × Addr) × MArg × MArg × PyData) (ea_cons (ev_var rfl) (ea_cons (ev_var rfl) (ea_cons (ev_var rfl) (ea_cons (ev_var rfl) ea_nil)))) (fun H2 e2 => ⟨⟨_, _, _, _, rfl, ⟨hG21.ex (e22.trans e2), hM21.ex (e22.trans e2)⟩, hov21.ex (e22.trans e2), hd.ex (e22.trans e2)⟩, pr, gd⟩) H1 e1 _ fun v1 H2 e2 h1 => ep_call (((p, c), ((sg, n, ts) : MArg), ((sg, n4', ts4) : MArg), d) : (Addr × Addr) × MArg × MArg × PyData) (ea_cons (ev_var rfl) (ea_cons (ev_var rfl) (ea_cons (ev_var rfl) (ea_cons (ev_var rfl) ea_nil)))) (fun H3 e3 => ⟨⟨_, _, _, _, rfl, ⟨hG21.ex (e22.trans e3), hM21.ex (e22.trans e3)⟩, hov21.ex (e22.trans e3), hd.ex (e22.trans e3)⟩, pr, gd⟩) H2 (e1.trans e2) _ fun v2 H3 e3 h2 => rv_neD (K := K) (fun H4 e4 => dpEx (e3.trans e4) h1) (fun H4 e4 => dpEx e4 h2) (gd_judged (x := (sg, n, ts)) (y := (sg, n4', ts4)) n6 d) (by decide) H3 (Ex.refl _) _ fun H4 e4 => q1 H4 ((e2.trans e3).trans e4)))) (fun hb => by cases hb) (fun _ H23 e23 => ?_)
        refine s_when (b := false) (et_is (et_test (ev_op (ev_reprW (K := K) rfl rfl (dp_vars (vs := [sv, mv, ov4, x]) (ea_cons (ev_var rfl) (ea_cons (ev_var rfl) (ea_cons (ev_var rfl) (ea_cons (ev_var rfl) ea_nil)))) (fun H2 e => all H2 ((e22.trans e23).trans e)) (by show 4 ≤ 1000; decide)) gK (by decide) (by decide)) (ev_var rfl) (rv_ne rfl))) (by rw [decide_eq_true rfl]; rfl)) (fun hb => by cases hb) (fun _ H24 e24 => ⟨((e21.trans e22).trans e23).trans e24, _, _, rfl⟩)
      · obtain ⟨e21, z8, z9, rfl⟩ := y
        exact ⟨⟨t20, pu20.ex e21, by omega⟩, _, _, _, _, _, _, _, _, rfl⟩
  · obtain ⟨_, y2, y3, y4, y5, y6, y7, y8, y9, hσ⟩ := tn
    subst hσ
    exact do_ret (do_ev ev_c fun _ _ => rfl)
end
end K22
end
section
namespace K22
open PySem PySem.Spec PyProof.Rows L2 Evl RZ Dw M20
section
variable {K : PySem.W.Frag} {h : Heap} {mg : Str → Option Value}
/-- a def by what the top has written -/
structure Wr (K : PySem.W.Frag) (x : Str) (st : Stmt) (f : Addr) : Prop where
  ex : ∃ (fd : FuncData), Fun K x x st f fd
  at_ : PySem.W.nsIn K mainGlobals x = some (some (.ref f))
theorem wr_mk {x : Str} {st : Stmt} {f : Addr} {od an : Option Addr} {sl : Array (Option Value)} {oc kV dc pm cd ct : Value} (a1 : PySem.W.nsIn K mainGlobals x = some (some (.ref f)))
    (l1 : K.lookup f = some ⟨oc, od, .func (PySem.W.fnOf x x (defArgs st) (defBody st) (defScope st) .none kV dc pm an cd ct), sl⟩) (c1 : PySem.W.codeIn K cd x = true) (k1 : PySem.W.keepIn K (.ref f) = true) : Wr K x st f := ⟨⟨_, fun_mk l1 c1 k1⟩, a1⟩
theorem Wr.df {x : Str} {st : Stmt} {f : Addr} {ps : List Str} (W : Wr K x st f) (X : K.In h) (G : h.Ns mainGlobals mg) (b : ∀ fd, Fun K x x st f fd → Binds K fd ps []) : Df K mg x st ps := by
  obtain ⟨fd, F⟩ := W.ex
  exact ⟨f, fd, F, PySem.W.mg_of X G W.at_, b fd F⟩
end

theorem all_mk {P : Program} {w : World} {K : PySem.W.Frag} {h : Heap} {mg : Str → Option Value} {fa : Addr} (X : K.In h) (G : h.Ns mainGlobals mg) (hfa : mg "law" = some (.ref fa)) (room : Room 14 callerA)
    {fl : Addr} {f0 : Addr} {f1 : Addr} {f2 : Addr} {f3 : Addr} {f4 : Addr} {f5 : Addr} {f6 : Addr} {f7 : Addr} {f8 : Addr} {f9 : Addr} {f10 : Addr} {f11 : Addr} {f12 : Addr} {f13 : Addr} {f14 : Addr} {f15 : Addr} {f16 : Addr} {f17 : Addr} {f18 : Addr} {f19 : Addr} {f20 : Addr} {f21 : Addr} {f22 : Addr} {f23 : Addr} {f24 : Addr} {f25 : Addr} {f26 : Addr} {f27 : Addr} {f28 : Addr} {f29 : Addr} {f30 : Addr} {f31 : Addr} {f32 : Addr} {f33 : Addr} {f34 : Addr} {f35 : Addr} {f36 : Addr} {f37 : Addr} {f38 : Addr} {f39 : Addr} {f40 : Addr} {f41 : Addr} {f42 : Addr} {f43 : Addr} {f44 : Addr} {f45 : Addr} {f46 : Addr} {f47 : Addr} {f48 : Addr} {f49 : Addr} {f50 : Addr}
    {t_NAME_LETTERS : Tok} {t_MOST_NAME : Tok} {t_MOST_DEEDS : Tok} {t_MOST_PLACES : Tok} {t_MOST_SIZE : Tok}
    (w0 : Wr K "_law_purse" s_purse f0)
    (w1 : Wr K "_law_draw" s_draw f1)
    (w2 : Wr K "_law_mixed" s_mixed f2)
    (w3 : Wr K "_law_signature" s_sgn f3)
    (w4 : Wr K "_law_table" s_tbl f4)
    (w5 : Wr K "_law_model" s_mdl f5)
    (w6 : Wr K "_law_order" s_ordr f6)
    (w7 : Wr K "_law_led" s_led f7)
    (w8 : Wr K "_law_turned" s_turned f8)
    (w9 : Wr K "is_name" s_is_name f9)
    (w10 : Wr K "is_whole" s_is_whole f10)
    (w11 : Wr K "is_below" s_is_below f11)
    (w12 : Wr K "is_deed" s_is_deed f12)
    (w13 : Wr K "signature_wrong" s_signature_wrong f13)
    (w14 : Wr K "need_signature" s_need_signature f14)
    (w15 : Wr K "is_size" s_is_size f15)
    (w16 : Wr K "power" s_power f16)
    (w17 : Wr K "first_odd_cell" s_first_odd_cell f17)
    (w18 : Wr K "model_wrong" s_model_wrong f18)
    (w19 : Wr K "need_model" s_need_model f19)
    (w20 : Wr K "need_two_models" s_need_two_models f20)
    (w21 : Wr K "rows_below" s_rows_below f21)
    (w22 : Wr K "table_of" s_table_of f22)
    (w23 : Wr K "place_of_row" s_place_of_row f23)
    (w24 : Wr K "place_of_row" s_place_of_row f24)
    (w25 : Wr K "clashes" s_clashes f25)
    (w26 : Wr K "first_clash" s_first_clash f26)
    (w27 : Wr K "led_from" s_led_from f27)
    (w28 : Wr K "likeness" s_likeness f28)
    (w29 : Wr K "_law_pick" s__law_pick f29)
    (w30 : Wr K "_law_tree" s__law_tree f30)
    (w31 : Wr K "_law_odd_ones" s__law_odd_ones f31)
    (w32 : Wr K "_law_bent" s__law_bent f32)
    (w33 : Wr K "_law_papers" s__law_papers f33)
    (w34 : Wr K "has_paper_form" s_has_paper_form f34)
    (w35 : Wr K "is_whole" s_is_whole f35)
    (w36 : Wr K "is_below" s_is_below f36)
    (w37 : Wr K "are_unlike_below" s_are_unlike_below f37)
    (w38 : Wr K "is_order" s_is_order f38)
    (w39 : Wr K "turned_back" s_turned_back f39)
    (w40 : Wr K "renamed_table" s_renamed_table f40)
    (w41 : Wr K "renamed_tables" s_renamed_tables f41)
    (w42 : Wr K "leads_there" s_leads_there f42)
    (w43 : Wr K "is_case" s_is_case f43)
    (w44 : Wr K "is_row" s_is_row f44)
    (w45 : Wr K "is_clash" s_is_clash f45)
    (w46 : Wr K "first_odd_place" s_first_odd_place f46)
    (w47 : Wr K "likeness_judged" s_likeness_judged f47)
    (w48 : Wr K "_law_is_clash" s__law_is_clash f48)
    (w49 : Wr K "_law_path" s__law_path f49)
    (w50 : Wr K "_law_due" s__law_due f50)
    (wl : Wr K "law" s_law fl)
    (z_abs : PySem.W.nsIn K mainGlobals "abs" = some none)
    (z_all : PySem.W.nsIn K mainGlobals "all" = some none)
    (z_bool : PySem.W.nsIn K mainGlobals "bool" = some none)
    (z_enumerate : PySem.W.nsIn K mainGlobals "enumerate" = some none)
    (z_int : PySem.W.nsIn K mainGlobals "int" = some none)
    (z_isinstance : PySem.W.nsIn K mainGlobals "isinstance" = some none)
    (z_len : PySem.W.nsIn K mainGlobals "len" = some none)
    (z_list : PySem.W.nsIn K mainGlobals "list" = some none)
    (z_max : PySem.W.nsIn K mainGlobals "max" = some none)
    (z_min : PySem.W.nsIn K mainGlobals "min" = some none)
    (z_range : PySem.W.nsIn K mainGlobals "range" = some none)
    (z_repr : PySem.W.nsIn K mainGlobals "repr" = some none)
    (z_reversed : PySem.W.nsIn K mainGlobals "reversed" = some none)
    (z_sorted : PySem.W.nsIn K mainGlobals "sorted" = some none)
    (z_str : PySem.W.nsIn K mainGlobals "str" = some none)
    (z_tuple : PySem.W.nsIn K mainGlobals "tuple" = some none)
    (z_zip : PySem.W.nsIn K mainGlobals "zip" = some none)
    (z_set : PySem.W.nsIn K mainGlobals "set" = some none)
    (k_NAME_LETTERS : PySem.W.nsIn K mainGlobals "NAME_LETTERS" = some (some (.str "abcdefghijklmnopqrst" t_NAME_LETTERS)))
    (k_MOST_NAME : PySem.W.nsIn K mainGlobals "MOST_NAME" = some (some (.int 4 t_MOST_NAME)))
    (k_MOST_DEEDS : PySem.W.nsIn K mainGlobals "MOST_DEEDS" = some (some (.int 4 t_MOST_DEEDS)))
    (k_MOST_PLACES : PySem.W.nsIn K mainGlobals "MOST_PLACES" = some (some (.int 2 t_MOST_PLACES)))
    (k_MOST_SIZE : PySem.W.nsIn K mainGlobals "MOST_SIZE" = some (some (.int 6 t_MOST_SIZE))) :
    ∃ (fd : FuncData) (st : Stmt) (N : List Str), Fun K "law" "law" st fa fd ∧ FnScope N ["_law_script"] (defScope st) ∧ (∀ (s : Shared) (u : Value), BindsTo s fd ⟨[u], []⟩ [("_law_script", u)]) ∧
      ∀ (base : Heap) (s : Shared) (H : Hp) (cdv : Value) (a : Addr) (ns : List Int), K.In base → base.Ns mainGlobals mg → ns.length ≤ 63 → SqL K H a (ns.map V.int) →
        ∃ t, PSs (cxOf CX0 P w K mg base N "law" (defScope st) fa cdv callerA [] s H E0).nox (defBody st) t ∧ t { nx := fun _ _ => False, rt := fun v _ => v = .bl true } (L2.start N [.ref a]) H := by
  have e := hfa.symm.trans (PySem.W.mg_of X G wl.at_)
  cases e
  have T : Txt mg := {
    z_abs := PySem.W.mg_none_of X G z_abs
    z_all := PySem.W.mg_none_of X G z_all
    z_bool := PySem.W.mg_none_of X G z_bool
    z_enumerate := PySem.W.mg_none_of X G z_enumerate
    z_int := PySem.W.mg_none_of X G z_int
    z_isinstance := PySem.W.mg_none_of X G z_isinstance
    z_len := PySem.W.mg_none_of X G z_len
    z_list := PySem.W.mg_none_of X G z_list
    z_max := PySem.W.mg_none_of X G z_max
    z_min := PySem.W.mg_none_of X G z_min
    z_range := PySem.W.mg_none_of X G z_range
    z_repr := PySem.W.mg_none_of X G z_repr
    z_reversed := PySem.W.mg_none_of X G z_reversed
    z_sorted := PySem.W.mg_none_of X G z_sorted
    z_str := PySem.W.mg_none_of X G z_str
    z_tuple := PySem.W.mg_none_of X G z_tuple
    z_zip := PySem.W.mg_none_of X G z_zip
    z_set := PySem.W.mg_none_of X G z_set
    c_NAME_LETTERS := ⟨_, PySem.W.mg_of X G k_NAME_LETTERS⟩
    c_MOST_NAME := ⟨_, PySem.W.mg_of X G k_MOST_NAME⟩
    c_MOST_DEEDS := ⟨_, PySem.W.mg_of X G k_MOST_DEEDS⟩
    c_MOST_PLACES := ⟨_, PySem.W.mg_of X G k_MOST_PLACES⟩
    c_MOST_SIZE := ⟨_, PySem.W.mg_of X G k_MOST_SIZE⟩ }
  have D0 : Df K mg "_law_purse" s_purse ["_law_script"] := w0.df X G fun fd F => by
    obtain ⟨oc, od, kV, doc, pm, an, cdv, ct, osl, e, _⟩ := F.ex
    subst e
    exact F.binds fun _ _ _ _ _ _ us hl => match us, hl with | [_], _ => rfl
  have D1 : Df K mg "_law_draw" s_draw ["_law_purse_here", "_law_out_of"] := w1.df X G fun fd F => by
    obtain ⟨oc, od, kV, doc, pm, an, cdv, ct, osl, e, _⟩ := F.ex
    subst e
    exact F.binds fun _ _ _ _ _ _ us hl => match us, hl with | [_, _], _ => rfl
  have D2 : Df K mg "_law_mixed" s_mixed ["_law_purse_here", "_law_things"] := w2.df X G fun fd F => by
    obtain ⟨oc, od, kV, doc, pm, an, cdv, ct, osl, e, _⟩ := F.ex
    subst e
    exact F.binds fun _ _ _ _ _ _ us hl => match us, hl with | [_, _], _ => rfl
  have D3 : Df K mg "_law_signature" s_sgn ["_law_purse_here", "_law_most"] := w3.df X G fun fd F => by
    obtain ⟨oc, od, kV, doc, pm, an, cdv, ct, osl, e, _⟩ := F.ex
    subst e
    exact F.binds fun _ _ _ _ _ _ us hl => match us, hl with | [_, _], _ => rfl
  have D4 : Df K mg "_law_table" s_tbl ["_law_purse_here", "_law_size", "_law_places"] := w4.df X G fun fd F => by
    obtain ⟨oc, od, kV, doc, pm, an, cdv, ct, osl, e, _⟩ := F.ex
    subst e
    exact F.binds fun _ _ _ _ _ _ us hl => match us, hl with | [_, _, _], _ => rfl
  have D5 : Df K mg "_law_model" s_mdl ["_law_purse_here", "_law_signature_here", "_law_size"] := w5.df X G fun fd F => by
    obtain ⟨oc, od, kV, doc, pm, an, cdv, ct, osl, e, _⟩ := F.ex
    subst e
    exact F.binds fun _ _ _ _ _ _ us hl => match us, hl with | [_, _, _], _ => rfl
  have D6 : Df K mg "_law_order" s_ordr ["_law_purse_here", "_law_size"] := w6.df X G fun fd F => by
    obtain ⟨oc, od, kV, doc, pm, an, cdv, ct, osl, e, _⟩ := F.ex
    subst e
    exact F.binds fun _ _ _ _ _ _ us hl => match us, hl with | [_, _], _ => rfl
  have D7 : Df K mg "_law_led" s_led ["_law_signature_here", "_law_model_here", "_law_order_here"] := w7.df X G fun fd F => by
    obtain ⟨oc, od, kV, doc, pm, an, cdv, ct, osl, e, _⟩ := F.ex
    subst e
    exact F.binds fun _ _ _ _ _ _ us hl => match us, hl with | [_, _, _], _ => rfl
  have D8 : Df K mg "_law_turned" s_turned ["_law_purse_here", "_law_signature_here", "_law_model_here"] := w8.df X G fun fd F => by
    obtain ⟨oc, od, kV, doc, pm, an, cdv, ct, osl, e, _⟩ := F.ex
    subst e
    exact F.binds fun _ _ _ _ _ _ us hl => match us, hl with | [_, _, _], _ => rfl
  have D9 : Df K mg "is_name" s_is_name ["thing"] := w9.df X G fun fd F => by
    obtain ⟨oc, od, kV, doc, pm, an, cdv, ct, osl, e, _⟩ := F.ex
    subst e
    exact F.binds fun _ _ _ _ _ _ us hl => match us, hl with | [_], _ => rfl
  have D10 : Df K mg "is_whole" s_is_whole ["thing"] := w10.df X G fun fd F => by
    obtain ⟨oc, od, kV, doc, pm, an, cdv, ct, osl, e, _⟩ := F.ex
    subst e
    exact F.binds fun _ _ _ _ _ _ us hl => match us, hl with | [_], _ => rfl
  have D11 : Df K mg "is_below" s_is_below ["thing", "size"] := w11.df X G fun fd F => by
    obtain ⟨oc, od, kV, doc, pm, an, cdv, ct, osl, e, _⟩ := F.ex
    subst e
    exact F.binds fun _ _ _ _ _ _ us hl => match us, hl with | [_, _], _ => rfl
  have D12 : Df K mg "is_deed" s_is_deed ["thing"] := w12.df X G fun fd F => by
    obtain ⟨oc, od, kV, doc, pm, an, cdv, ct, osl, e, _⟩ := F.ex
    subst e
    exact F.binds fun _ _ _ _ _ _ us hl => match us, hl with | [_], _ => rfl
  have D13 : Df K mg "signature_wrong" s_signature_wrong ["thing"] := w13.df X G fun fd F => by
    obtain ⟨oc, od, kV, doc, pm, an, cdv, ct, osl, e, _⟩ := F.ex
    subst e
    exact F.binds fun _ _ _ _ _ _ us hl => match us, hl with | [_], _ => rfl
  have D14 : Df K mg "need_signature" s_need_signature ["signature"] := w14.df X G fun fd F => by
    obtain ⟨oc, od, kV, doc, pm, an, cdv, ct, osl, e, _⟩ := F.ex
    subst e
    exact F.binds fun _ _ _ _ _ _ us hl => match us, hl with | [_], _ => rfl
  have D15 : Df K mg "is_size" s_is_size ["thing"] := w15.df X G fun fd F => by
    obtain ⟨oc, od, kV, doc, pm, an, cdv, ct, osl, e, _⟩ := F.ex
    subst e
    exact F.binds fun _ _ _ _ _ _ us hl => match us, hl with | [_], _ => rfl
  have D16 : Df K mg "power" s_power ["base", "many"] := w16.df X G fun fd F => by
    obtain ⟨oc, od, kV, doc, pm, an, cdv, ct, osl, e, _⟩ := F.ex
    subst e
    exact F.binds fun _ _ _ _ _ _ us hl => match us, hl with | [_, _], _ => rfl
  have D17 : Df K mg "first_odd_cell" s_first_odd_cell ["size", "tables"] := w17.df X G fun fd F => by
    obtain ⟨oc, od, kV, doc, pm, an, cdv, ct, osl, e, _⟩ := F.ex
    subst e
    exact F.binds fun _ _ _ _ _ _ us hl => match us, hl with | [_, _], _ => rfl
  have D18 : Df K mg "model_wrong" s_model_wrong ["signature", "thing"] := w18.df X G fun fd F => by
    obtain ⟨oc, od, kV, doc, pm, an, cdv, ct, osl, e, _⟩ := F.ex
    subst e
    exact F.binds fun _ _ _ _ _ _ us hl => match us, hl with | [_, _], _ => rfl
  have D19 : Df K mg "need_model" s_need_model ["signature", "model"] := w19.df X G fun fd F => by
    obtain ⟨oc, od, kV, doc, pm, an, cdv, ct, osl, e, _⟩ := F.ex
    subst e
    exact F.binds fun _ _ _ _ _ _ us hl => match us, hl with | [_, _], _ => rfl
  have D20 : Df K mg "need_two_models" s_need_two_models ["signature", "one", "other"] := w20.df X G fun fd F => by
    obtain ⟨oc, od, kV, doc, pm, an, cdv, ct, osl, e, _⟩ := F.ex
    subst e
    exact F.binds fun _ _ _ _ _ _ us hl => match us, hl with | [_, _, _], _ => rfl
  have D21 : Df K mg "rows_below" s_rows_below ["size", "many"] := w21.df X G fun fd F => by
    obtain ⟨oc, od, kV, doc, pm, an, cdv, ct, osl, e, _⟩ := F.ex
    subst e
    exact F.binds fun _ _ _ _ _ _ us hl => match us, hl with | [_, _], _ => rfl
  have D22 : Df K mg "table_of" s_table_of ["signature", "tables", "name"] := w22.df X G fun fd F => by
    obtain ⟨oc, od, kV, doc, pm, an, cdv, ct, osl, e, _⟩ := F.ex
    subst e
    exact F.binds fun _ _ _ _ _ _ us hl => match us, hl with | [_, _, _], _ => rfl
  have D23 : Df K mg "place_of_row" s_place_of_row ["size", "row"] := w23.df X G fun fd F => by
    obtain ⟨oc, od, kV, doc, pm, an, cdv, ct, osl, e, _⟩ := F.ex
    subst e
    exact F.binds fun _ _ _ _ _ _ us hl => match us, hl with | [_, _], _ => rfl
  have D24 : Df K mg "place_of_row" s_place_of_row ["size", "row"] := w24.df X G fun fd F => by
    obtain ⟨oc, od, kV, doc, pm, an, cdv, ct, osl, e, _⟩ := F.ex
    subst e
    exact F.binds fun _ _ _ _ _ _ us hl => match us, hl with | [_, _], _ => rfl
  have D25 : Df K mg "clashes" s_clashes ["signature", "one", "other", "images", "name", "numbers"] := w25.df X G fun fd F => by
    obtain ⟨oc, od, kV, doc, pm, an, cdv, ct, osl, e, _⟩ := F.ex
    subst e
    exact F.binds fun _ _ _ _ _ _ us hl => match us, hl with | [_, _, _, _, _, _], _ => rfl
  have D26 : Df K mg "first_clash" s_first_clash ["signature", "one", "other", "images"] := w26.df X G fun fd F => by
    obtain ⟨oc, od, kV, doc, pm, an, cdv, ct, osl, e, _⟩ := F.ex
    subst e
    exact F.binds fun _ _ _ _ _ _ us hl => match us, hl with | [_, _, _, _], _ => rfl
  have D27 : Df K mg "led_from" s_led_from ["signature", "one", "other", "images"] := w27.df X G fun fd F => by
    obtain ⟨oc, od, kV, doc, pm, an, cdv, ct, osl, e, _⟩ := F.ex
    subst e
    exact F.binds fun _ _ _ _ _ _ us hl => match us, hl with | [_, _, _, _], _ => rfl
  have D28 : Df K mg "likeness" s_likeness ["signature", "one", "other"] := w28.df X G fun fd F => by
    obtain ⟨oc, od, kV, doc, pm, an, cdv, ct, osl, e, _⟩ := F.ex
    subst e
    exact F.binds fun _ _ _ _ _ _ us hl => match us, hl with | [_, _, _], _ => rfl
  have D29 : Df K mg "_law_pick" s__law_pick ["_law_purse_here", "_law_things"] := w29.df X G fun fd F => by
    obtain ⟨oc, od, kV, doc, pm, an, cdv, ct, osl, e, _⟩ := F.ex
    subst e
    exact F.binds fun _ _ _ _ _ _ us hl => match us, hl with | [_, _], _ => rfl
  have D30 : Df K mg "_law_tree" s__law_tree ["_law_purse_here", "_law_signature_here", "_law_size", "_law_many", "_law_deep"] := w30.df X G fun fd F => by
    obtain ⟨oc, od, kV, doc, pm, an, cdv, ct, osl, e, _⟩ := F.ex
    subst e
    exact F.binds fun _ _ _ _ _ _ us hl => match us, hl with | [_, _, _, _, _], _ => rfl
  have D31 : Df K mg "_law_odd_ones" s__law_odd_ones ["_law_purse_here", "_law_signature_here", "_law_tree_here"] := w31.df X G fun fd F => by
    obtain ⟨oc, od, kV, doc, pm, an, cdv, ct, osl, e, _⟩ := F.ex
    subst e
    exact F.binds fun _ _ _ _ _ _ us hl => match us, hl with | [_, _, _], _ => rfl
  have D32 : Df K mg "_law_bent" s__law_bent ["_law_purse_here", "_law_signature_here", "_law_tree_here"] := w32.df X G fun fd F => by
    obtain ⟨oc, od, kV, doc, pm, an, cdv, ct, osl, e, _⟩ := F.ex
    subst e
    exact F.binds fun _ _ _ _ _ _ us hl => match us, hl with | [_, _, _], _ => rfl
  have D33 : Df K mg "_law_papers" s__law_papers ["_law_purse_here", "_law_signature_here", "_law_one", "_law_other"] := w33.df X G fun fd F => by
    obtain ⟨oc, od, kV, doc, pm, an, cdv, ct, osl, e, _⟩ := F.ex
    subst e
    exact F.binds fun _ _ _ _ _ _ us hl => match us, hl with | [_, _, _, _], _ => rfl
  have D34 : Df K mg "has_paper_form" s_has_paper_form ["paper"] := w34.df X G fun fd F => by
    obtain ⟨oc, od, kV, doc, pm, an, cdv, ct, osl, e, _⟩ := F.ex
    subst e
    exact F.binds fun _ _ _ _ _ _ us hl => match us, hl with | [_], _ => rfl
  have D35 : Df K mg "is_whole" s_is_whole ["thing"] := w35.df X G fun fd F => by
    obtain ⟨oc, od, kV, doc, pm, an, cdv, ct, osl, e, _⟩ := F.ex
    subst e
    exact F.binds fun _ _ _ _ _ _ us hl => match us, hl with | [_], _ => rfl
  have D36 : Df K mg "is_below" s_is_below ["thing", "size"] := w36.df X G fun fd F => by
    obtain ⟨oc, od, kV, doc, pm, an, cdv, ct, osl, e, _⟩ := F.ex
    subst e
    exact F.binds fun _ _ _ _ _ _ us hl => match us, hl with | [_, _], _ => rfl
  have D37 : Df K mg "are_unlike_below" s_are_unlike_below ["things", "size"] := w37.df X G fun fd F => by
    obtain ⟨oc, od, kV, doc, pm, an, cdv, ct, osl, e, _⟩ := F.ex
    subst e
    exact F.binds fun _ _ _ _ _ _ us hl => match us, hl with | [_, _], _ => rfl
  have D38 : Df K mg "is_order" s_is_order ["thing", "size"] := w38.df X G fun fd F => by
    obtain ⟨oc, od, kV, doc, pm, an, cdv, ct, osl, e, _⟩ := F.ex
    subst e
    exact F.binds fun _ _ _ _ _ _ us hl => match us, hl with | [_, _], _ => rfl
  have D39 : Df K mg "turned_back" s_turned_back ["order"] := w39.df X G fun fd F => by
    obtain ⟨oc, od, kV, doc, pm, an, cdv, ct, osl, e, _⟩ := F.ex
    subst e
    exact F.binds fun _ _ _ _ _ _ us hl => match us, hl with | [_], _ => rfl
  have D40 : Df K mg "renamed_table" s_renamed_table ["size", "places", "table", "order"] := w40.df X G fun fd F => by
    obtain ⟨oc, od, kV, doc, pm, an, cdv, ct, osl, e, _⟩ := F.ex
    subst e
    exact F.binds fun _ _ _ _ _ _ us hl => match us, hl with | [_, _, _, _], _ => rfl
  have D41 : Df K mg "renamed_tables" s_renamed_tables ["signature", "size", "tables", "order"] := w41.df X G fun fd F => by
    obtain ⟨oc, od, kV, doc, pm, an, cdv, ct, osl, e, _⟩ := F.ex
    subst e
    exact F.binds fun _ _ _ _ _ _ us hl => match us, hl with | [_, _, _, _], _ => rfl
  have D42 : Df K mg "leads_there" s_leads_there ["signature", "one", "other", "order"] := w42.df X G fun fd F => by
    obtain ⟨oc, od, kV, doc, pm, an, cdv, ct, osl, e, _⟩ := F.ex
    subst e
    exact F.binds fun _ _ _ _ _ _ us hl => match us, hl with | [_, _, _, _], _ => rfl
  have D43 : Df K mg "is_case" s_is_case ["size", "images", "tree"] := w43.df X G fun fd F => by
    obtain ⟨oc, od, kV, doc, pm, an, cdv, ct, osl, e, _⟩ := F.ex
    subst e
    exact F.binds fun _ _ _ _ _ _ us hl => match us, hl with | [_, _, _], _ => rfl
  have D44 : Df K mg "is_row" s_is_row ["thing", "many", "size"] := w44.df X G fun fd F => by
    obtain ⟨oc, od, kV, doc, pm, an, cdv, ct, osl, e, _⟩ := F.ex
    subst e
    exact F.binds fun _ _ _ _ _ _ us hl => match us, hl with | [_, _, _], _ => rfl
  have D45 : Df K mg "is_clash" s_is_clash ["signature", "one", "other", "images", "tree"] := w45.df X G fun fd F => by
    obtain ⟨oc, od, kV, doc, pm, an, cdv, ct, osl, e, _⟩ := F.ex
    subst e
    exact F.binds fun _ _ _ _ _ _ us hl => match us, hl with | [_, _, _, _, _], _ => rfl
  have D46 : Df K mg "first_odd_place" s_first_odd_place ["signature", "one", "other", "tree"] := w46.df X G fun fd F => by
    obtain ⟨oc, od, kV, doc, pm, an, cdv, ct, osl, e, _⟩ := F.ex
    subst e
    exact F.binds fun _ _ _ _ _ _ us hl => match us, hl with | [_, _, _, _], _ => rfl
  have D47 : Df K mg "likeness_judged" s_likeness_judged ["signature", "one", "other", "paper"] := w47.df X G fun fd F => by
    obtain ⟨oc, od, kV, doc, pm, an, cdv, ct, osl, e, _⟩ := F.ex
    subst e
    exact F.binds fun _ _ _ _ _ _ us hl => match us, hl with | [_, _, _, _], _ => rfl
  have D48 : Df K mg "_law_is_clash" s__law_is_clash ["_law_signature_here", "_law_one", "_law_other", "_law_images", "_law_tree_here"] := w48.df X G fun fd F => by
    obtain ⟨oc, od, kV, doc, pm, an, cdv, ct, osl, e, _⟩ := F.ex
    subst e
    exact F.binds fun _ _ _ _ _ _ us hl => match us, hl with | [_, _, _, _, _], _ => rfl
  have D49 : Df K mg "_law_path" s__law_path ["_law_signature_here", "_law_one", "_law_other", "_law_images", "_law_tree_here", "_law_path_here"] := w49.df X G fun fd F => by
    obtain ⟨oc, od, kV, doc, pm, an, cdv, ct, osl, e, _⟩ := F.ex
    subst e
    exact F.binds fun _ _ _ _ _ _ us hl => match us, hl with | [_, _, _, _, _, _], _ => rfl
  have D50 : Df K mg "_law_due" s__law_due ["_law_signature_here", "_law_one", "_law_other", "_law_paper"] := w50.df X G fun fd F => by
    obtain ⟨oc, od, kV, doc, pm, an, cdv, ct, osl, e, _⟩ := F.ex
    subst e
    exact F.binds fun _ _ _ _ _ _ us hl => match us, hl with | [_, _, _, _], _ => rfl
  obtain ⟨fd, F⟩ := wl.ex
  refine ⟨fd, s_law, ["_law_script", "_law_purse_here", "_law_time", "_law_signature_here", "_law_size", "_law_one", "_law_other", "_law_way_here", "_law_paper", "_law_kept"], F, sc_law, fun s u => ?_, fun base s H cdv a ns inB nsB len seq => ?_⟩
  · obtain ⟨oc, od, kV, doc, pm, an, cdv, ct, osl, e, _⟩ := F.ex
    subst e
    exact .of_eq rfl
  · have c_purse := c_purse (P := P) (w := w) (base := base) T D0 
    have c_draw := c_draw (P := P) (w := w) (base := base) T D1 
    have c_mixed := c_mixed (P := P) (w := w) (base := base) T D2 c_draw
    have c_signature := c_signature (P := P) (w := w) (base := base) T D3 c_draw c_mixed
    have c_table := c_table (P := P) (w := w) (base := base) T D4 c_draw c_mixed
    have c_model := c_model (P := P) (w := w) (base := base) T D5 c_table
    have c_order := c_order (P := P) (w := w) (base := base) T D6 c_mixed
    have c_led := c_led (P := P) (w := w) (base := base) T D7 
    have c_turned := c_turned (P := P) (w := w) (base := base) T D8 c_draw
    have c_is_name := c_is_name (P := P) (w := w) (base := base) T D9 
    have c_is_whole := c_is_whole (P := P) (w := w) (base := base) T D10 
    have c_is_below := c_is_below (P := P) (w := w) (base := base) T D11 c_is_whole
    have c_is_deed := c_is_deed (P := P) (w := w) (base := base) T D12 c_is_name c_is_below
    have c_signature_wrong := c_signature_wrong (P := P) (w := w) (base := base) T D13 c_is_deed
    have c_need_signature := c_need_signature (P := P) (w := w) (base := base) T D14 c_signature_wrong
    have c_is_size := c_is_size (P := P) (w := w) (base := base) T D15 c_is_whole
    have c_power := c_power (P := P) (w := w) (base := base) T D16 
    have c_first_odd_cell := c_first_odd_cell (P := P) (w := w) (base := base) T D17 c_is_below
    have c_model_wrong := c_model_wrong (P := P) (w := w) (base := base) T D18 c_need_signature c_is_size c_power c_first_odd_cell
    have c_need_model := c_need_model (P := P) (w := w) (base := base) T D19 c_model_wrong
    have c_need_two_models := c_need_two_models (P := P) (w := w) (base := base) T D20 c_need_model
    have c_rows_below := c_rows_below (P := P) (w := w) (base := base) T D21 
    have c_table_of := c_table_of (P := P) (w := w) (base := base) T D22 
    have c_place_of_row := c_place_of_row (P := P) (w := w) (base := base) T D23 
    have c_place_of_rowT := c_place_of_rowT (P := P) (w := w) (base := base) T D24 
    have c_clashes := c_clashes (P := P) (w := w) (base := base) T D25 c_table_of c_place_of_row c_place_of_rowT
    have c_first_clash := c_first_clash (P := P) (w := w) (base := base) T D26 c_rows_below c_clashes
    have c_led_from := c_led_from (P := P) (w := w) (base := base) T D27 c_first_clash
    have c_likeness := c_likeness (P := P) (w := w) (base := base) T D28 c_need_two_models c_led_from
    have c_pick := c_pick (P := P) (w := w) (base := base) T D29 c_draw
    have c_tree := c_tree (P := P) (w := w) (base := base) T D30 c_draw c_pick
    have c_odd_ones := c_odd_ones (P := P) (w := w) (base := base) T D31 c_pick
    have c_bent := c_bent (P := P) (w := w) (base := base) T D32 c_draw c_pick c_odd_ones
    have c_papers := c_papers (P := P) (w := w) (base := base) T D33 c_likeness c_order c_tree c_bent
    have c_form_any := c_form_any (P := P) (w := w) (base := base) T D34 
    have c_whole_any := c_whole_any (P := P) (w := w) (base := base) T D35 
    have c_below_any := c_below_any (P := P) (w := w) (base := base) T D36 c_whole_any
    have c_unlike_any := c_unlike_any (P := P) (w := w) (base := base) T D37 c_below_any
    have c_order_any := c_order_any (P := P) (w := w) (base := base) T D38 c_unlike_any
    have c_turned_back := c_turned_back (P := P) (w := w) (base := base) T D39 
    have c_renamed_table := c_renamed_table (P := P) (w := w) (base := base) T D40 c_turned_back
    have c_renamed_tables := c_renamed_tables (P := P) (w := w) (base := base) T D41 c_renamed_table
    have c_leads_any := c_leads_any (P := P) (w := w) (base := base) T D42 c_order_any c_renamed_tables
    have c_case_any := c_case_any (P := P) (w := w) (base := base) T D43 
    have c_row_any := c_row_any (P := P) (w := w) (base := base) T D44 c_below_any
    have c_clash_any := c_clash_any (P := P) (w := w) (base := base) T D45 c_row_any c_clashes
    have c_first_odd_place := c_first_odd_place (P := P) (w := w) (base := base) T D46 c_case_any c_clash_any
    have c_judged_any := c_judged_any (P := P) (w := w) (base := base) T D47 c_need_two_models c_form_any c_leads_any c_first_odd_place
    have c_law_clash := c_law_clash (P := P) (w := w) (base := base) T D48 
    have c_law_path := c_law_path (P := P) (w := w) (base := base) T D49 c_law_clash
    have c_due := c_due (P := P) (w := w) (base := base) T D50 c_led c_law_path
    exact law_ok T c_purse c_draw c_signature c_model c_order c_led c_turned c_papers c_judged_any c_due room s H fa cdv a ns len seq
end K22
end
open PySem PySem.W PyProof.Rows
set_option maxHeartbeats 0 in
theorem PySem.Challenge.cw_deedworlds_k22_likeness_judged_holds : PySem.Challenge.rw_deedworlds_k22_likeness_judged.Holds := by
  w_on; o_law; k_head; (case hw => w_witness2)
  k_fill
  refine Dw.walkG (l := PySem.Challenge.rw_deedworlds_k22_likeness_judged) (n := 63) (k := 13) (x := "_law_script") rfl (by decide) rfl ⟨rfl, by decide, by decide⟩ (fun w h Y => PySem.W.kIn_of Y) ?F
  case F =>
    intro w mg fa h KX G hmg
    refine' K22.all_mk KX G hmg ⟨rfl, by decide, by decide⟩ (K22.wr_mk ?a0 ?l0 ?c0 ?k0) (K22.wr_mk ?a1 ?l1 ?c1 ?k1) (K22.wr_mk ?a2 ?l2 ?c2 ?k2) (K22.wr_mk ?a3 ?l3 ?c3 ?k3) (K22.wr_mk ?a4 ?l4 ?c4 ?k4) (K22.wr_mk ?a5 ?l5 ?c5 ?k5) (K22.wr_mk ?a6 ?l6 ?c6 ?k6) (K22.wr_mk ?a7 ?l7 ?c7 ?k7) (K22.wr_mk ?a8 ?l8 ?c8 ?k8) (K22.wr_mk ?a9 ?l9 ?c9 ?k9) (K22.wr_mk ?a10 ?l10 ?c10 ?k10) (K22.wr_mk ?a11 ?l11 ?c11 ?k11) (K22.wr_mk ?a12 ?l12 ?c12 ?k12) (K22.wr_mk ?a13 ?l13 ?c13 ?k13) (K22.wr_mk ?a14 ?l14 ?c14 ?k14) (K22.wr_mk ?a15 ?l15 ?c15 ?k15) (K22.wr_mk ?a16 ?l16 ?c16 ?k16) (K22.wr_mk ?a17 ?l17 ?c17 ?k17) (K22.wr_mk ?a18 ?l18 ?c18 ?k18) (K22.wr_mk ?a19 ?l19 ?c19 ?k19) (K22.wr_mk ?a20 ?l20 ?c20 ?k20) (K22.wr_mk ?a21 ?l21 ?c21 ?k21) (K22.wr_mk ?a22 ?l22 ?c22 ?k22) (K22.wr_mk ?a23 ?l23 ?c23 ?k23) (K22.wr_mk ?a24 ?l24 ?c24 ?k24) (K22.wr_mk ?a25 ?l25 ?c25 ?k25) (K22.wr_mk ?a26 ?l26 ?c26 ?k26) (K22.wr_mk ?a27 ?l27 ?c27 ?k27) (K22.wr_mk ?a28 ?l28 ?c28 ?k28) (K22.wr_mk ?a29 ?l29 ?c29 ?k29) (K22.wr_mk ?a30 ?l30 ?c30 ?k30) (K22.wr_mk ?a31 ?l31 ?c31 ?k31) (K22.wr_mk ?a32 ?l32 ?c32 ?k32) (K22.wr_mk ?a33 ?l33 ?c33 ?k33) (K22.wr_mk ?a34 ?l34 ?c34 ?k34) (K22.wr_mk ?a35 ?l35 ?c35 ?k35) (K22.wr_mk ?a36 ?l36 ?c36 ?k36) (K22.wr_mk ?a37 ?l37 ?c37 ?k37) (K22.wr_mk ?a38 ?l38 ?c38 ?k38) (K22.wr_mk ?a39 ?l39 ?c39 ?k39) (K22.wr_mk ?a40 ?l40 ?c40 ?k40) (K22.wr_mk ?a41 ?l41 ?c41 ?k41) (K22.wr_mk ?a42 ?l42 ?c42 ?k42) (K22.wr_mk ?a43 ?l43 ?c43 ?k43) (K22.wr_mk ?a44 ?l44 ?c44 ?k44) (K22.wr_mk ?a45 ?l45 ?c45 ?k45) (K22.wr_mk ?a46 ?l46 ?c46 ?k46) (K22.wr_mk ?a47 ?l47 ?c47 ?k47) (K22.wr_mk ?a48 ?l48 ?c48 ?k48) (K22.wr_mk ?a49 ?l49 ?c49 ?k49) (K22.wr_mk ?a50 ?l50 ?c50 ?k50) (K22.wr_mk ?al ?ll ?cl ?kl) ?z_abs ?z_all ?z_bool ?z_enumerate ?z_int ?z_isinstance ?z_len ?z_list ?z_max ?z_min ?z_range ?z_repr ?z_reversed ?z_sorted ?z_str ?z_tuple ?z_zip ?z_set ?k_NAME_LETTERS ?k_MOST_NAME ?k_MOST_DEEDS ?k_MOST_PLACES ?k_MOST_SIZE
    (case a0 => k_is); (case l0 => k_is); (case c0 => k_is); (case k0 => k_is)
    (case a1 => k_is); (case l1 => k_is); (case c1 => k_is); (case k1 => k_is)
    (case a2 => k_is); (case l2 => k_is); (case c2 => k_is); (case k2 => k_is)
    (case a3 => k_is); (case l3 => k_is); (case c3 => k_is); (case k3 => k_is)
    (case a4 => k_is); (case l4 => k_is); (case c4 => k_is); (case k4 => k_is)
    (case a5 => k_is); (case l5 => k_is); (case c5 => k_is); (case k5 => k_is)
    (case a6 => k_is); (case l6 => k_is); (case c6 => k_is); (case k6 => k_is)
    (case a7 => k_is); (case l7 => k_is); (case c7 => k_is); (case k7 => k_is)
    (case a8 => k_is); (case l8 => k_is); (case c8 => k_is); (case k8 => k_is)
    (case a9 => k_is); (case l9 => k_is); (case c9 => k_is); (case k9 => k_is)
    (case a10 => k_is); (case l10 => k_is); (case c10 => k_is); (case k10 => k_is)
    (case a11 => k_is); (case l11 => k_is); (case c11 => k_is); (case k11 => k_is)
    (case a12 => k_is); (case l12 => k_is); (case c12 => k_is); (case k12 => k_is)
    (case a13 => k_is); (case l13 => k_is); (case c13 => k_is); (case k13 => k_is)
    (case a14 => k_is); (case l14 => k_is); (case c14 => k_is); (case k14 => k_is)
    (case a15 => k_is); (case l15 => k_is); (case c15 => k_is); (case k15 => k_is)
    (case a16 => k_is); (case l16 => k_is); (case c16 => k_is); (case k16 => k_is)
    (case a17 => k_is); (case l17 => k_is); (case c17 => k_is); (case k17 => k_is)
    (case a18 => k_is); (case l18 => k_is); (case c18 => k_is); (case k18 => k_is)
    (case a19 => k_is); (case l19 => k_is); (case c19 => k_is); (case k19 => k_is)
    (case a20 => k_is); (case l20 => k_is); (case c20 => k_is); (case k20 => k_is)
    (case a21 => k_is); (case l21 => k_is); (case c21 => k_is); (case k21 => k_is)
    (case a22 => k_is); (case l22 => k_is); (case c22 => k_is); (case k22 => k_is)
    (case a23 => k_is); (case l23 => k_is); (case c23 => k_is); (case k23 => k_is)
    (case a24 => k_is); (case l24 => k_is); (case c24 => k_is); (case k24 => k_is)
    (case a25 => k_is); (case l25 => k_is); (case c25 => k_is); (case k25 => k_is)
    (case a26 => k_is); (case l26 => k_is); (case c26 => k_is); (case k26 => k_is)
    (case a27 => k_is); (case l27 => k_is); (case c27 => k_is); (case k27 => k_is)
    (case a28 => k_is); (case l28 => k_is); (case c28 => k_is); (case k28 => k_is)
    (case a29 => k_is); (case l29 => k_is); (case c29 => k_is); (case k29 => k_is)
    (case a30 => k_is); (case l30 => k_is); (case c30 => k_is); (case k30 => k_is)
    (case a31 => k_is); (case l31 => k_is); (case c31 => k_is); (case k31 => k_is)
    (case a32 => k_is); (case l32 => k_is); (case c32 => k_is); (case k32 => k_is)
    (case a33 => k_is); (case l33 => k_is); (case c33 => k_is); (case k33 => k_is)
    (case a34 => k_is); (case l34 => k_is); (case c34 => k_is); (case k34 => k_is)
    (case a35 => k_is); (case l35 => k_is); (case c35 => k_is); (case k35 => k_is)
    (case a36 => k_is); (case l36 => k_is); (case c36 => k_is); (case k36 => k_is)
    (case a37 => k_is); (case l37 => k_is); (case c37 => k_is); (case k37 => k_is)
    (case a38 => k_is); (case l38 => k_is); (case c38 => k_is); (case k38 => k_is)
    (case a39 => k_is); (case l39 => k_is); (case c39 => k_is); (case k39 => k_is)
    (case a40 => k_is); (case l40 => k_is); (case c40 => k_is); (case k40 => k_is)
    (case a41 => k_is); (case l41 => k_is); (case c41 => k_is); (case k41 => k_is)
    (case a42 => k_is); (case l42 => k_is); (case c42 => k_is); (case k42 => k_is)
    (case a43 => k_is); (case l43 => k_is); (case c43 => k_is); (case k43 => k_is)
    (case a44 => k_is); (case l44 => k_is); (case c44 => k_is); (case k44 => k_is)
    (case a45 => k_is); (case l45 => k_is); (case c45 => k_is); (case k45 => k_is)
    (case a46 => k_is); (case l46 => k_is); (case c46 => k_is); (case k46 => k_is)
    (case a47 => k_is); (case l47 => k_is); (case c47 => k_is); (case k47 => k_is)
    (case a48 => k_is); (case l48 => k_is); (case c48 => k_is); (case k48 => k_is)
    (case a49 => k_is); (case l49 => k_is); (case c49 => k_is); (case k49 => k_is)
    (case a50 => k_is); (case l50 => k_is); (case c50 => k_is); (case k50 => k_is)
    (case al => k_is); (case ll => k_is); (case cl => k_is); (case kl => k_is)
    (case z_abs => k_is); (case z_all => k_is); (case z_bool => k_is); (case z_enumerate => k_is); (case z_int => k_is); (case z_isinstance => k_is); (case z_len => k_is); (case z_list => k_is); (case z_max => k_is); (case z_min => k_is); (case z_range => k_is); (case z_repr => k_is); (case z_reversed => k_is); (case z_sorted => k_is); (case z_str => k_is); (case z_tuple => k_is); (case z_zip => k_is); (case z_set => k_is)
    (case k_NAME_LETTERS => k_is); (case k_MOST_NAME => k_is); (case k_MOST_DEEDS => k_is); (case k_MOST_PLACES => k_is); (case k_MOST_SIZE => k_is)
