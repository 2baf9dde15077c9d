package tests

import (
	"fmt"
	"slices"
	"strings"
	"testing"

	"loop.example/kilnmill/impl"
)

// placeOf is a place with these names and texts, one behind the other, as they stand.
func placeOf(namesAndTexts ...string) impl.Place {
	return impl.Place{Files: filesOf(namesAndTexts...)}
}

func filesOf(namesAndTexts ...string) []impl.File {
	var files []impl.File
	for i := 0; i < len(namesAndTexts); i += 2 {
		files = append(files, impl.File{Name: namesAndTexts[i], Text: namesAndTexts[i+1]})
	}
	return files
}

// numbered are so many files, ascending, their names beginning so.
func numbered(start string, count int) []impl.File {
	var files []impl.File
	for i := range count {
		files = append(files, impl.File{Name: fmt.Sprintf("%s%02d", start, i), Text: fmt.Sprint(i)})
	}
	return files
}

// placeCases are places, and whether they are valid.
func placeCases() map[string]struct {
	place impl.Place
	valid bool
} {
	type row = struct {
		place impl.Place
		valid bool
	}
	twice := numbered("f", 40)
	twice[39] = twice[38]
	return map[string]row{
		"nil":                      {impl.Place{}, true},
		"empty":                    {impl.Place{Files: []impl.File{}}, true},
		"one":                      {placeOf("a", "1"), true},
		"one without a text":       {placeOf("a", ""), true},
		"ascending":                {placeOf("!", "", "A", "", "a", "", "a!", "", "aa", "", "b", "", "~", ""), true},
		"any bytes in a text":      {placeOf("a", "\x00\xff\n \"\\"), true},
		"out of order":             {placeOf("b", "", "a", ""), false},
		"out of order at the end":  {placeOf("a", "", "c", "", "b", ""), false},
		"a beginning behind":       {placeOf("ab", "", "a", ""), false},
		"capitals behind":          {placeOf("a", "", "B", ""), false},
		"twice":                    {placeOf("a", "1", "a", "1"), false},
		"twice, not beside":        {placeOf("a", "", "b", "", "a", ""), false},
		"an empty name":            {placeOf("", ""), false},
		"a space":                  {placeOf("a b", ""), false},
		"byte 33 and 126":          {placeOf("!~", ""), true},
		"byte 32":                  {placeOf(" ", ""), false},
		"byte 127":                 {placeOf("\x7f", ""), false},
		"byte 128":                 {placeOf("\x80", ""), false},
		"a newline":                {placeOf("a\n", ""), false},
		"the second is none":       {placeOf("a", "", "b b", ""), false},
		"MaxPath":                  {placeOf(xs(60), ""), true},
		"MaxPath and one more":     {placeOf(xs(61), ""), false},
		"MaxText":                  {placeOf("a", xs(3000), "b", xs(3000)), true},
		"MaxText and one more":     {placeOf("a", xs(3001)), false},
		"the last one is too long": {placeOf("a", "", "b", xs(3001)), false},
		"MaxFiles":                 {impl.Place{Files: numbered("f", 40)}, true},
		"MaxFiles and one more":    {impl.Place{Files: numbered("f", 41)}, false},
		"MaxFiles, one twice":      {impl.Place{Files: twice}, false},
		"many":                     {impl.Place{Files: numbered("f", 90)}, false},
	}
}

func TestValidPlace(t *testing.T) {
	for what, c := range placeCases() {
		if got := impl.ValidPlace(c.place); got != c.valid {
			t.Errorf("%s: %v", what, got)
		}
	}
}

func TestSee(t *testing.T) {
	p := placeOf("a", "1", "empty", "", "lib", "l", "lib/x", "2", "lib/y", "", "libs", xs(3000), "z", "\x00\n\"")
	all := "a\nempty\nlib\nlib/x\nlib/y\nlibs\nz\n"
	for _, c := range []struct {
		kind int
		name string
		want impl.Reply
	}{
		{impl.LookRead, "a", impl.Reply{Text: "1"}},
		{impl.LookRead, "empty", impl.Reply{}},
		{impl.LookRead, "libs", impl.Reply{Text: xs(3000)}},
		{impl.LookRead, "z", impl.Reply{Text: "\x00\n\""}},
		{impl.LookRead, "b", goneReply},
		{impl.LookRead, "lib/", goneReply},
		{impl.LookRead, "li", goneReply},
		{impl.LookRead, "A", goneReply},
		{impl.LookRead, "zz", goneReply},
		{impl.LookRead, "!", goneReply},
		{impl.LookHas, "a", impl.Reply{}},
		{impl.LookHas, "empty", impl.Reply{}},
		{impl.LookHas, "libs", impl.Reply{}},
		{impl.LookHas, "b", goneReply},
		{impl.LookHas, "lib/", goneReply},
		{impl.LookList, "", impl.Reply{Text: all}},
		{impl.LookList, "b", impl.Reply{}},
		{impl.LookList, "a", impl.Reply{Text: "a\n"}},
		{impl.LookList, "z", impl.Reply{Text: "z\n"}},
		{impl.LookList, "zz", impl.Reply{}},
		{impl.LookList, "li", impl.Reply{Text: "lib\nlib/x\nlib/y\nlibs\n"}},
		{impl.LookList, "lib", impl.Reply{Text: "lib\nlib/x\nlib/y\nlibs\n"}},
		{impl.LookList, "lib/", impl.Reply{Text: "lib/x\nlib/y\n"}},
		{impl.LookList, "lib/y", impl.Reply{Text: "lib/y\n"}},
		{impl.LookList, "ib", impl.Reply{}},
		// A name that is none: no file has it or begins with it.
		{impl.LookRead, "", goneReply},
		{impl.LookHas, "", goneReply},
		{impl.LookRead, "a b", goneReply},
		{impl.LookHas, xs(61), goneReply},
		{impl.LookList, "a\n", impl.Reply{}},
		{impl.LookList, " ", impl.Reply{}},
		{impl.LookList, xs(61), impl.Reply{}},
		// Other kinds, whatever is there.
		{impl.LookTool, "a", belowReply},
		{impl.LookTool, "b", belowReply},
		{impl.LookTool, "", belowReply},
		{0, "a", belowReply},
		{5, "a", belowReply},
		{-1, "a", belowReply},
		{1 << 40, "a", belowReply},
		{-1 << 40, "", belowReply},
	} {
		if got := impl.See(p, c.kind, c.name); got != c.want {
			t.Errorf("%d %q: %.100q, want %.100q", c.kind, c.name, fmt.Sprint(got), fmt.Sprint(c.want))
		}
	}
	for kind, want := range map[int]impl.Reply{impl.LookRead: goneReply, impl.LookHas: goneReply, impl.LookList: {}, impl.LookTool: belowReply} {
		if got := impl.See(impl.Place{}, kind, "a"); got != want {
			t.Errorf("the empty place, %d: %v", kind, got)
		}
	}
	// The longest list is one that a reply can have.
	long := numbered(xs(58), 40)
	if got := impl.See(impl.Place{Files: long}, impl.LookList, xs(58)); len(got.Text) != 40*61 || !impl.ValidReply(got) {
		t.Errorf("%d bytes", len(got.Text))
	}
	for what, c := range placeCases() {
		for _, kind := range []int{impl.LookRead, impl.LookHas, impl.LookList, impl.LookTool} {
			got := impl.See(c.place, kind, "none-of-these")
			want := modelSee(c.place, kind, "none-of-these")
			if got != want || !c.valid && got != belowReply {
				t.Errorf("%s, %d: %v, want %v", what, kind, got, want)
			}
		}
	}
}

func TestLay(t *testing.T) {
	p := placeOf("b", "1", "d", "2", "f", "3")
	for _, c := range []struct{ lay, want []impl.File }{
		{nil, p.Files},
		{[]impl.File{}, p.Files},
		{filesOf("a", "x"), filesOf("a", "x", "b", "1", "d", "2", "f", "3")},
		{filesOf("c", "x"), filesOf("b", "1", "c", "x", "d", "2", "f", "3")},
		{filesOf("e", ""), filesOf("b", "1", "d", "2", "e", "", "f", "3")},
		{filesOf("g", "x"), filesOf("b", "1", "d", "2", "f", "3", "g", "x")},
		{filesOf("b", "x"), filesOf("b", "x", "d", "2", "f", "3")},
		{filesOf("d", ""), filesOf("b", "1", "d", "", "f", "3")},
		{filesOf("f", xs(3000)), filesOf("b", "1", "d", "2", "f", xs(3000))},
		{filesOf("bb", "x"), filesOf("b", "1", "bb", "x", "d", "2", "f", "3")},
		{filesOf("B", "x"), filesOf("B", "x", "b", "1", "d", "2", "f", "3")},
		// In any order, and one name twice: the last one stays.
		{filesOf("g", "x", "c", "y", "a", "z"), filesOf("a", "z", "b", "1", "c", "y", "d", "2", "f", "3", "g", "x")},
		{filesOf("c", "x", "c", "y"), filesOf("b", "1", "c", "y", "d", "2", "f", "3")},
		{filesOf("d", "x", "a", "y", "d", "z"), filesOf("a", "y", "b", "1", "d", "z", "f", "3")},
		{filesOf(xs(60), ""), filesOf("b", "1", "d", "2", "f", "3", xs(60), "")},
	} {
		got, code := impl.Lay(p, c.lay)
		if code != 0 || !slices.Equal(got.Files, c.want) || !impl.ValidPlace(got) {
			t.Errorf("%.200q: %d %.200q", c.lay, code, got)
		}
	}
	if got, code := impl.Lay(impl.Place{}, filesOf("b", "1", "a", "2")); code != 0 || !slices.Equal(got.Files, filesOf("a", "2", "b", "1")) {
		t.Errorf("into the empty place: %d %v", code, got)
	}
	if got, code := impl.Lay(impl.Place{}, nil); code != 0 || len(got.Files) != 0 {
		t.Errorf("nothing into the empty place: %d %v", code, got)
	}
}

func TestLayCodes(t *testing.T) {
	full := impl.Place{Files: numbered("f", 40)}
	most := impl.Place{Files: numbered("f", 37)}
	p := placeOf("a", "1")
	again := slices.Repeat(filesOf("a", "x"), 41)
	wrongBehind := append(numbered("g", 4), impl.File{Name: "a b"})
	for _, c := range []struct {
		what  string
		place impl.Place
		lay   []impl.File
		code  int
		count int
	}{
		{"MaxFiles met", most, numbered("g", 3), 0, 40},
		{"gone over by one", most, numbered("g", 4), 2, 0},
		{"one twice, so that MaxFiles is met", most, append(numbered("g", 3), numbered("g", 3)...), 0, 40},
		{"nothing more into a full place", full, nil, 0, 40},
		{"one that is there into a full place", full, filesOf("f07", "new"), 0, 40},
		{"all that are there into a full place", full, numbered("f", 40), 0, 40},
		{"one more into a full place", full, filesOf("a", ""), 2, 0},
		{"as many as may be laid", impl.Place{}, numbered("g", 40), 0, 40},
		{"as many as may be laid, beside another", p, numbered("g", 40), 2, 0},
		{"as many as may be laid, all the same", p, again[:40], 0, 1},
		{"one more than may be laid", impl.Place{}, numbered("g", 41), 1, 0},
		{"one more than may be laid, all the same", p, again, 1, 0},
		{"one more than may be laid, into a full place", full, numbered("f", 41), 1, 0},
		{"an empty name", p, filesOf("", ""), 1, 0},
		{"a name with a space", p, filesOf("x y", ""), 1, 0},
		{"byte 127", p, filesOf("\x7f", ""), 1, 0},
		{"a long name", p, filesOf(xs(61), ""), 1, 0},
		{"a long text", p, filesOf("a", xs(3001)), 1, 0},
		{"a long text that would be gone again", p, filesOf("a", xs(3001), "a", ""), 1, 0},
		{"the last one is wrong", p, filesOf("a", "", "b", "", "c\n", ""), 1, 0},
		{"wrong ahead of too many", most, wrongBehind, 1, 0},
		{"no place ahead of too many", impl.Place{Files: append(numbered("f", 39), impl.File{})}, numbered("g", 4), 1, 0},
	} {
		got, code := impl.Lay(c.place, c.lay)
		if code != c.code || len(got.Files) != c.count || !impl.ValidPlace(got) {
			t.Errorf("%s: %d with %d files", c.what, code, len(got.Files))
		}
	}
	for what, c := range placeCases() {
		if got, code := impl.Lay(c.place, nil); c.valid && (code != 0 || !slices.Equal(got.Files, c.place.Files)) || !c.valid && (code != 1 || len(got.Files) != 0) {
			t.Errorf("%s: %d with %d files", what, code, len(got.Files))
		}
	}
}

// What is answered is new memory, and the arguments stay as they are.
func TestPlaceOwnMemory(t *testing.T) {
	wrong := ownRoom(placeOf("bb", "text b", "aa", "text a"))
	p := ownRoom(placeOf("aa", "text a", "bb", "text b", "lib/x", ""))
	for _, place := range []impl.Place{p, wrong} {
		wantOwn(t, "ValidPlace", func() any { return impl.ValidPlace(place) }, place)
		for kind := range 6 {
			for _, name := range []string{"aa", "lib/x", "lib", "", "none"} {
				name = ownRoom(name)
				wantOwn(t, "See", func() any { return impl.See(place, kind, name) }, place, name)
			}
		}
		for _, lay := range [][]impl.File{nil, filesOf("aa", "new"), filesOf("a", "1", "zz", "2", "a", "3"), filesOf("", ""), numbered("f", 38)} {
			lay = ownRoom(lay)
			wantOwn(t, "Lay", func() any {
				got, _ := impl.Lay(place, lay)
				return got
			}, place, lay)
		}
	}
	// A list that is one file's name is still a text of its own.
	if got := impl.See(p, impl.LookList, "aa"); got.Text != "aa\n" || isShared(got.Text, p.Files[0].Name) {
		t.Errorf("%q", got.Text)
	}
}

// modelSee is a second way to answer a look: by going through all files, and with another way to tell which places are valid.
func modelSee(p impl.Place, kind int, name string) impl.Reply {
	if !isModelPlace(p) || kind < 1 || kind > 3 {
		return belowReply
	}
	lines := ""
	for _, file := range p.Files {
		switch {
		case kind == 3:
			if len(file.Name) >= len(name) && file.Name[:len(name)] == name {
				lines += file.Name + "\n"
			}
		case file.Name == name:
			return impl.Reply{Text: map[int]string{1: file.Text, 2: ""}[kind]}
		}
	}
	if kind == 3 {
		return impl.Reply{Text: lines}
	}
	return goneReply
}

func isModelFile(file impl.File) bool {
	return fileForm.MatchString(file.Name) && len(file.Text) <= 3000
}

func isModelPlace(p impl.Place) bool {
	names := map[string]bool{}
	var list []string
	for _, file := range p.Files {
		if !isModelFile(file) || names[file.Name] {
			return false
		}
		names[file.Name] = true
		list = append(list, file.Name)
	}
	return len(list) <= 40 && slices.IsSortedFunc(list, textSign)
}

// modelLay is a second way to lay: all files one behind the other, of each name the last, sorted.
func modelLay(p impl.Place, files []impl.File) (impl.Place, int) {
	if !isModelPlace(p) || len(files) > 40 || slices.ContainsFunc(files, func(file impl.File) bool { return !isModelFile(file) }) {
		return impl.Place{}, 1
	}
	all := append(slices.Clone(p.Files), files...)
	slices.Reverse(all)
	slices.SortStableFunc(all, func(a, b impl.File) int { return strings.Compare(a.Name, b.Name) })
	all = slices.CompactFunc(all, func(a, b impl.File) bool { return a.Name == b.Name })
	if len(all) > 40 {
		return impl.Place{}, 2
	}
	return impl.Place{Files: all}, 0
}

// place is a made place, now and then one that is not valid; the names are such as come near each other.
func (m *typed) place(names []string, wrong int) impl.Place {
	var p impl.Place
	for _, name := range names {
		if m.Intn(2) == 0 {
			p.Files = append(p.Files, impl.File{Name: name, Text: runTexts[m.Intn(len(runTexts))]})
		}
	}
	if wrong > 0 && m.Intn(wrong) == 0 && len(p.Files) > 1 {
		i, k := m.Intn(len(p.Files)), m.Intn(len(p.Files))
		p.Files[i].Name = p.Files[k].Name
	}
	return p
}

// nearNames are names that begin with each other, ascending, and some that are none.
func nearNames() (names, none []string) {
	for _, a := range []string{"", "!", "a", "b"} {
		for _, b := range []string{"", "!", "a", "b"} {
			for _, c := range []string{"", "a", "~"} {
				names = append(names, a+b+c)
			}
		}
	}
	slices.Sort(names)
	names = slices.Compact(names)[1:]
	return names, []string{"", " ", "a b", "\x7f", "a\n", xs(61)}
}

// See, Lay and Holds by chance, held against the second ways.
func TestPlacesByChance(t *testing.T) {
	m := newTyped(101)
	names, none := nearNames()
	count := map[string]int{}
	for range 4000 {
		p := m.place(names, 4)
		if m.Intn(3) == 0 {
			p.Files = append(p.Files, numbered("z", m.Intn(25))...)
		}
		pick := func() string {
			if m.Intn(10) == 0 {
				return none[m.Intn(len(none))]
			}
			return names[m.Intn(len(names))]
		}
		if impl.ValidPlace(p) != isModelPlace(p) {
			t.Fatalf("%.1000q: %v", p, impl.ValidPlace(p))
		}
		var seen []impl.Seen
		holds := isModelPlace(p)
		for range m.Intn(6) {
			s := impl.Seen{Kind: m.Intn(6), Name: pick()}
			s.Reply = modelSee(p, s.Kind, s.Name)
			if got := impl.See(p, s.Kind, s.Name); got != s.Reply {
				t.Fatalf("%.1000q %d %q: %.300q, want %.300q", p, s.Kind, s.Name, fmt.Sprint(got), fmt.Sprint(s.Reply))
			}
			if m.Intn(10) == 0 {
				s.Reply.Code = []int{0, 4, 5}[m.Intn(3)]
				holds = holds && s.Reply == modelSee(p, s.Kind, s.Name)
			}
			seen = append(seen, s)
		}
		if impl.Holds(p, seen) != holds {
			t.Fatalf("%.1000q %.1000q: %v", p, fmt.Sprint(seen), !holds)
		}
		count[fmt.Sprint("holds ", holds)]++
		var lay []impl.File
		for range m.Intn(8) * m.Intn(8) {
			file := impl.File{Name: names[m.Intn(len(names))], Text: runTexts[m.Intn(len(runTexts))]}
			if m.Intn(100) == 0 {
				file.Name = pick()
			}
			lay = append(lay, file)
		}
		got, code := impl.Lay(p, lay)
		want, wantCode := modelLay(p, lay)
		if code != wantCode || !slices.Equal(got.Files, want.Files) {
			t.Fatalf("%.1000q %.1000q: %d, want %d", p, lay, code, wantCode)
		}
		count[fmt.Sprint("code ", code)]++
	}
	for _, what := range []string{"holds true", "holds false", "code 0", "code 1", "code 2"} {
		if count[what] < 50 {
			t.Errorf("%s: %d times (%v)", what, count[what], count)
		}
	}
}
