package tests

import (
	"fmt"
	"runtime"
	"slices"
	"strings"
	"testing"
	"time"

	"loop.example/kilnmill/impl"
)

// modelActed is a second way to act: by Mean, asked anew with one more reply for each look. It is false where a look has no answer.
func modelActed(see func(kind int, name string) (impl.Reply, bool), tool string, j impl.Job) (impl.Acted, bool) {
	if !fileForm.MatchString(tool) || !isModelJob(j) {
		return impl.Acted{}, false
	}
	first, ok := see(1, tool)
	if !ok {
		return impl.Acted{}, false
	}
	did := impl.Acted{Code: first.Code, Text: tool, Seen: []impl.Seen{{Kind: 1, Name: tool, Reply: first}}}
	if first.Code != 0 {
		return did, true
	}
	tree, fault := impl.Parse(first.Text)
	if fault.Code != 0 || impl.Check(tree).Code != 0 {
		did.Code, did.Text = 2, "tool"
		return did, true
	}
	var replies []impl.Reply
	for {
		turn := impl.Mean(tree, j, replies)
		if turn.Over {
			did.Code, did.Text, did.Steps, did.Files, did.Said = turn.Code, turn.Text, turn.Steps, turn.Files, turn.Said
			return did, true
		}
		reply, ok := see(turn.Kind, turn.Name)
		if !ok {
			return impl.Acted{}, false
		}
		replies = append(replies, reply)
		did.Seen = append(did.Seen, impl.Seen{Kind: turn.Kind, Name: turn.Name, Reply: reply})
	}
}

func modelAct(p impl.Place, tool string, j impl.Job) impl.Acted {
	if isModelPlace(p) {
		see := func(kind int, name string) (impl.Reply, bool) { return modelSee(p, kind, name), true }
		if did, ok := modelActed(see, tool, j); ok {
			return did
		}
	}
	return impl.Acted{Code: 9}
}

func modelAgain(seen []impl.Seen, tool string, j impl.Job) impl.Acted {
	for _, s := range seen {
		if !isModelReply(s.Reply) {
			return impl.Acted{Code: 9}
		}
	}
	next := 0
	see := func(kind int, name string) (impl.Reply, bool) {
		if next == len(seen) || seen[next].Kind != kind || seen[next].Name != name {
			return impl.Reply{}, false
		}
		next++
		return seen[next-1].Reply, true
	}
	if did, ok := modelActed(see, tool, j); ok && next == len(seen) {
		return did
	}
	return impl.Acted{Code: 9}
}

// checkAct holds Act against the second way, and asks for all that is promised of it; it gives what Act answers.
func checkAct(t *testing.T, p impl.Place, tool string, j impl.Job) impl.Acted {
	t.Helper()
	did, _ := checkActed(t, p, tool, j)
	return did
}

// checkActed tells, too, how often the program was written anew.
func checkActed(t *testing.T, p impl.Place, tool string, j impl.Job) (impl.Acted, int) {
	t.Helper()
	did := impl.Act(p, tool, j)
	what := fmt.Sprintf("%q with %q in %q", tool, j, p)
	if want := modelAct(p, tool, j); !sameActed(did, want) {
		t.Fatalf("%.3000s:\n%.1500q\nwant\n%.1500q", what, fmt.Sprint(did), fmt.Sprint(want))
	}
	if did.Code == impl.NotValid {
		return did, 0
	}
	checkConfined(t, what, did, j)
	if !impl.Holds(p, did.Seen) {
		t.Fatalf("%.3000s: what it saw does not hold there", what)
	}
	if again := impl.Again(did.Seen, tool, j); !sameActed(again, did) {
		t.Fatalf("%.3000s:\n%.1500q\nbut again\n%.1500q", what, fmt.Sprint(did), fmt.Sprint(again))
	}
	return did, checkRewritten(t, p, tool, j, did)
}

// checkConfined asks for P16.
func checkConfined(t *testing.T, what string, did impl.Acted, j impl.Job) {
	t.Helper()
	var names []string
	for _, file := range did.Files {
		names = append(names, file.Name)
	}
	if did.Code == impl.Done && !slices.Equal(names, j.Outs) || did.Code != impl.Done && len(names) > 0 {
		t.Fatalf("%.3000s: code %d with files %q", what, did.Code, names)
	}
	var replies []impl.Reply
	for i, s := range did.Seen {
		if i == 0 {
			continue
		}
		tree, _ := impl.Parse(did.Seen[0].Reply.Text)
		// Of many looks only some, so that it does not take too long.
		if i < 5 || i%20 == 0 {
			if turn := impl.Mean(tree, j, replies); turn.Over || turn.Kind != s.Kind || turn.Name != s.Name {
				t.Fatalf("%.3000s: look %d is %+v, Mean asks for %d %q", what, i, s, turn.Kind, turn.Name)
			}
		}
		replies = append(replies, s.Reply)
	}
}

// checkRewritten asks for P17: the same with the text that Print writes, of the tree and of the folded one. (A program that looks at its own text sees another one then.)
func checkRewritten(t *testing.T, p impl.Place, tool string, j impl.Job, did impl.Acted) int {
	t.Helper()
	if slices.ContainsFunc(did.Seen[1:], func(s impl.Seen) bool { return s.Kind == impl.LookRead && s.Name == tool }) {
		return 0
	}
	tree, fault := impl.Parse(did.Seen[0].Reply.Text)
	if fault.Code != 0 || impl.Check(tree).Code != 0 {
		return 0
	}
	count := 0
	for _, by := range []impl.Tree{tree, impl.Fold(tree)} {
		text := impl.Print(by)
		if text == "" || len(text) > impl.MaxText {
			continue
		}
		count++
		q, _ := impl.Lay(p, filesOf(tool, text))
		got := impl.Act(q, tool, j)
		if len(got.Seen) == 0 || got.Seen[0] != seenBy(impl.LookRead, tool, text) {
			t.Fatalf("%.3000q: seen first %.1000q", text, fmt.Sprint(got.Seen))
		}
		got.Seen[0] = did.Seen[0]
		if !sameActed(got, did) {
			t.Fatalf("%.3000s\nin its place:\n%.1000q\nnot\n%.1000q", text, fmt.Sprint(got), fmt.Sprint(did))
		}
	}
	return count
}

// inPlaces are the names of made places; programs look for the first ones.
var inPlaces = []string{"!", "-", "0", "1", "12", "a", "a!", "b", "o", "ox", "p", "t", "u", "x"}

// world is a made place with programs in it, the name of one, and a job for it.
func (m *typed) world() (impl.Place, string, impl.Job) {
	p := m.place(inPlaces, 0)
	var programs []impl.File
	for _, name := range []string{"a", "t", "p"} {
		if m.Intn(3) > 0 {
			programs = append(programs, impl.File{Name: name, Text: m.tool()})
		}
	}
	tool := []string{"t", "t", "t", "t", "a", "p", "b", "-"}[m.Intn(8)]
	tree := treeOf(m.program(1+m.Intn(3), 0))
	m.runnable(&tree)
	j := m.job()
	src := impl.Print(tree)
	if m.Intn(3) == 0 {
		// By chance alone hardly a run writes all that it is to write.
		j.Outs = []string{"o", "x"}
		begin := "fn main() -> text {\n"
		src = strings.Replace(src, begin, begin+"  write \"x\", list(\"a\") + arg();\n  write \"o\", arg();\n", 1)
	}
	if src != "" && len(src) <= impl.MaxText && m.Intn(20) > 0 {
		programs = append(programs, impl.File{Name: tool, Text: src})
	}
	p, _ = impl.Lay(p, programs)
	return p, tool, j
}

// otherPlace is a place that differs from this one by a file: there, not there, or with another text.
func (m *typed) otherPlace(p impl.Place) impl.Place {
	q := impl.Place{Files: slices.Clone(p.Files)}
	if name := inPlaces[m.Intn(len(inPlaces))]; m.Intn(2) == 0 {
		q, _ = impl.Lay(q, filesOf(name, runTexts[m.Intn(len(runTexts))]))
	} else {
		q.Files = slices.DeleteFunc(q.Files, func(file impl.File) bool { return file.Name == name })
	}
	return q
}

// P15 to P17, for made programs in made places.
func TestActByChance(t *testing.T) {
	m := newTyped(102)
	ends, kinds := map[int]int{}, map[int]int{}
	count := map[string]int{}
	for range 2000 {
		p, tool, j := m.world()
		did, rewritten := checkActed(t, p, tool, j)
		count["rewritten"] += rewritten
		ends[did.Code]++
		for _, s := range did.Seen[1:] {
			kinds[s.Kind*10+s.Reply.Code]++
		}
		if len(did.Files) > 0 {
			count["written"]++
		}
		for range 4 {
			q := m.otherPlace(p)
			if !impl.Holds(q, did.Seen) {
				count["other"]++
				continue
			}
			count["same"]++
			if got := impl.Act(q, tool, j); !sameActed(got, did) {
				t.Fatalf("%q with %q in\n%.2000q\nand\n%.2000q\n%.1000q\nand\n%.1000q", tool, j, p, q, fmt.Sprint(did), fmt.Sprint(got))
			}
		}
	}
	// Code 5 is that of no look in a place.
	for _, end := range []int{0, 1, 2, 3, 4} {
		if ends[end] < 30 {
			t.Errorf("code %d: %d times (%v)", end, ends[end], ends)
		}
	}
	for _, kind := range []int{10, 14, 20, 24, 30} {
		if kinds[kind] < 30 {
			t.Errorf("kind and code %d: %d times (%v)", kind, kinds[kind], kinds)
		}
	}
	for _, what := range []string{"written", "rewritten", "same", "other"} {
		if count[what] < 100 {
			t.Errorf("%s: %d times (%v)", what, count[what], count)
		}
	}
}

// bendSeen changes something of what was seen.
func (m *typed) bendSeen(seen []impl.Seen) []impl.Seen {
	seen = slices.Clone(seen)
	i := m.Intn(len(seen))
	switch m.Intn(9) {
	case 0:
		return seen[:i]
	case 1:
		return slices.Delete(seen, i, i+1)
	case 2:
		return slices.Insert(seen, m.Intn(len(seen)+1), seen[i])
	case 3:
		seen[i].Kind = m.Intn(6)
	case 4:
		seen[i].Name = inPlaces[m.Intn(len(inPlaces))]
	case 5:
		k := m.Intn(len(seen))
		seen[i], seen[k] = seen[k], seen[i]
	case 6:
		seen[i].Reply = impl.Reply{Code: m.Intn(7) - 1}
	case 7:
		seen[i].Reply = m.reply()
	case 8:
		seen[i].Reply = m.reply()
		return seen[:i+1]
	}
	return seen
}

// Again of what was seen and of what was not, held against the second way.
func TestAgainByChance(t *testing.T) {
	m := newTyped(103)
	ends := map[int]int{}
	for range 2000 {
		p, tool, j := m.world()
		seen := impl.Act(p, tool, j).Seen
		for range 4 {
			bent := m.bendSeen(seen)
			got, want := impl.Again(bent, tool, j), modelAgain(bent, tool, j)
			if !sameActed(got, want) {
				t.Fatalf("%q with %q by %.2000q:\n%.1000q\nwant\n%.1000q", tool, j, fmt.Sprint(bent), fmt.Sprint(got), fmt.Sprint(want))
			}
			if got.Code != impl.NotValid && !slices.Equal(got.Seen, bent) {
				t.Fatalf("%q by %.2000q: seen %.1000q", tool, fmt.Sprint(bent), fmt.Sprint(got.Seen))
			}
			ends[got.Code]++
		}
	}
	for _, end := range []int{0, 1, 2, 3, 4, 5, 9} {
		if ends[end] < 30 {
			t.Errorf("code %d: %d times (%v)", end, ends[end], ends)
		}
	}
}

// All that were begun to answer have ended behind the answer, however early a run ends.
func TestAgainEnds(t *testing.T) {
	src := mainOf("return read(\"a\") + read(\"b\");")
	seen := []impl.Seen{seenBy(impl.LookRead, "t", src), seenBy(impl.LookRead, "a", ""), seenBy(impl.LookRead, "b", ""), seenBy(impl.LookRead, "c", "")}
	before := runtime.NumGoroutine()
	for i := range 1000 {
		impl.Again(seen[:i%5], "t", impl.Job{})
		impl.Again(seen[i%5:], "t", impl.Job{})
		impl.Again(slices.Repeat(seen[:1], i%102), "t", impl.Job{})
	}
	for range 100 {
		if runtime.NumGoroutine() <= before {
			return
		}
		time.Sleep(10 * time.Millisecond)
	}
	t.Errorf("%d, before %d", runtime.NumGoroutine(), before)
}

// Nothing is kept between two calls, nor shared by calls at the same time.
func TestActAtOnce(t *testing.T) {
	src := mainOf("write \"o\", read(arg()) + list(\"\"); return arg();")
	p := placeOf("a", "1", "b", "2", "c", strings.Repeat("3", 2900), "t", src)
	var want []impl.Acted
	for _, arg := range []string{"a", "b", "c", "d"} {
		want = append(want, impl.Act(p, "t", impl.Job{Arg: arg, Outs: []string{"o"}}))
	}
	done := make(chan string)
	for range 8 {
		go func() {
			for i := range 200 {
				j := impl.Job{Arg: []string{"a", "b", "c", "d"}[i%4], Outs: []string{"o"}}
				if got := impl.Act(p, "t", j); !sameActed(got, want[i%4]) {
					done <- fmt.Sprint(got)
					return
				}
				if got := impl.Again(want[i%4].Seen, "t", j); !sameActed(got, want[i%4]) {
					done <- fmt.Sprint("again ", got)
					return
				}
			}
			done <- ""
		}()
	}
	for range 8 {
		if wrong := <-done; wrong != "" {
			t.Errorf("%.500s", wrong)
		}
	}
}
