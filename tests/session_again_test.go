package tests

import (
	"fmt"
	"regexp"
	"slices"
	"strings"
	"testing"

	"loop.example/kilnmill/impl"
)

// A second way to do a session: each line of the table is a form, and the files lie in a place that is asked by the second ways of places and actions.

const (
	// A word behind the first one begins with no quote: there Q would begin.
	laterForm = ` ([^ "][^ ]*)`
	quoteForm = ` ("(?:[ !#-\[\]-~]|\\(?:[01][0-9a-f]|22|5c|7f|[89a-f][0-9a-f]))*")`
)

var lineForms = []*regexp.Regexp{
	regexp.MustCompile(`^(file)` + laterForm + quoteForm + `$`),
	regexp.MustCompile(`^(drop|show|look|print|fold|code)` + laterForm + `$`),
	regexp.MustCompile(`^(act)` + laterForm + `((?: [^ "][^ ]*)*)` + quoteForm + `$`),
	regexp.MustCompile(`^(said|holds)$`),
}

var escapeForm = regexp.MustCompile(`\\..`)

// meant is what a Q stands for.
func meant(q string) string {
	return escapeForm.ReplaceAllStringFunc(q[1:len(q)-1], func(escape string) string {
		var b byte
		fmt.Sscanf(escape[1:], "%x", &b)
		return string([]byte{b})
	})
}

// talking is a session of the second way.
type talking struct {
	place impl.Place
	last  impl.Acted
}

func modelSession(text string) string {
	lines := strings.SplitAfter(text, "\n")
	if lines[len(lines)-1] == "" {
		lines = lines[:len(lines)-1]
	}
	if len(text) > 20000 || len(lines) > 400 {
		return "too long\n"
	}
	var s talking
	answers := ""
	for _, line := range lines {
		answers += s.answer(strings.TrimSuffix(line, "\n")) + "\n"
	}
	return answers
}

func (s *talking) answer(line string) string {
	for _, form := range lineForms {
		if parts := form.FindStringSubmatch(line); parts != nil {
			return s.does(parts[1:])
		}
	}
	return "bad"
}

func (s *talking) does(parts []string) string {
	switch parts[0] {
	case "file":
		q, code := modelLay(s.place, filesOf(parts[1], meant(parts[2])))
		if code == 0 {
			s.place = q
		}
		return fmt.Sprint("code ", code)
	case "act":
		return s.acts(parts[1], strings.Split(parts[2], " ")[1:], meant(parts[3]))
	case "said":
		var all []string
		for _, text := range s.last.Said {
			all = append(all, quoted(text))
		}
		return strings.Join(append(all, []string{"-"}[min(len(all), 1):]...), " ")
	case "holds":
		for _, seen := range s.last.Seen {
			if modelSee(s.place, seen.Kind, seen.Name) != seen.Reply {
				return "no"
			}
		}
		return "yes"
	}
	for i := range s.place.Files {
		if s.place.Files[i].Name == parts[1] {
			return s.doesTo(parts[0], i)
		}
	}
	return map[string]string{"drop": "none", "show": "none", "look": "none", "print": "no", "fold": "no", "code": "no"}[parts[0]]
}

// doesTo does something to a file that is there.
func (s *talking) doesTo(word string, i int) string {
	text := s.place.Files[i].Text
	switch word {
	case "drop":
		s.place.Files = append(slices.Clone(s.place.Files[:i]), s.place.Files[i+1:]...)
		return "ok"
	case "show":
		return quoted(text)
	}
	tree, fault := impl.Parse(text)
	unfit := impl.Check(tree)
	if word == "look" && fault.Code != 0 {
		return fmt.Sprint("fault ", fault.Code, " ", fault.At)
	}
	if word == "look" && unfit.Code != 0 {
		return fmt.Sprint("unfit ", unfit.Code, " ", unfit.At)
	}
	if fault.Code != 0 || unfit.Code != 0 {
		return "no"
	}
	switch word {
	case "look":
		return "fits"
	case "code":
		code, count := impl.Compile(tree), 0
		for _, fn := range code.Fns {
			count += len(fn.Ins)
		}
		return fmt.Sprintf("%d functions %d instructions %d bytes", len(code.Fns), count, len(impl.WriteCode(code)))
	case "fold":
		tree = impl.Fold(tree)
	}
	anew := impl.Print(tree)
	if anew == "" || len(anew) > 3000 {
		return "no"
	}
	s.place.Files = slices.Clone(s.place.Files)
	s.place.Files[i].Text = anew
	return "ok"
}

func (s *talking) acts(tool string, outs []string, arg string) string {
	s.last = modelAct(s.place, tool, impl.Job{Arg: arg, Outs: outs})
	if q, code := modelLay(s.place, s.last.Files); code == 0 && s.last.Code == 0 {
		s.place = q
	}
	return fmt.Sprintf("%d %s steps %d looks %d", s.last.Code, quoted(s.last.Text), s.last.Steps, len(s.last.Seen))
}

// outLists are Outs as they may stand in a line; the last ones are such as no run or no job can have.
var outLists = []string{"", " o", " o p", "", " o", " o p", " x", " p o"}

// sessionText is a program that may write what stands in a line, or any text.
func (m *typed) sessionText() string {
	switch m.Intn(4) {
	case 0:
		return runTexts[m.Intn(len(runTexts))]
	case 1:
		if m.Intn(4) == 0 {
			return mainOf("return 1;")
		}
		return m.tool()
	}
	src := ""
	for _, name := range strings.Fields(outLists[m.Intn(3)]) {
		text := []string{"arg()", "read(\"a\")", "list(\"\")", "read(\"t\")", "\"a\" + \"b\"", "tool(\"u\", arg())"}[m.Intn(6)]
		src += "write \"" + name + "\", " + text + "; say " + []string{"arg()", "read(\"a\")", "list(arg())", "dec(1+1)"}[m.Intn(4)] + "; "
	}
	return mainOf(src + "return " + []string{"arg()", "arg() + \"!\"", "read(arg())"}[m.Intn(3)] + ";")
}

func (m *typed) line() string {
	name := []string{"t", "t", "u", "a", "b", "o", "p", "x"}[m.Intn(8)]
	switch m.Intn(12) {
	case 0, 1:
		return "file " + name + " " + quoted(m.sessionText())
	case 2:
		return "drop " + name
	case 3:
		return "show " + name
	case 4:
		return "look " + name
	case 5:
		return "print " + name
	case 6:
		return "fold " + name
	case 7:
		return "code " + name
	case 8, 9:
		if m.Intn(4) > 0 {
			name = []string{"t", "u"}[m.Intn(2)]
		}
		return "act " + name + outLists[m.Intn(len(outLists))] + " " + quoted(runTexts[m.Intn(16)])
	case 10:
		return "said"
	}
	return "holds"
}

// bendLine changes a byte or more of a line.
func (m *typed) bendLine(line string) string {
	i := m.Intn(len(line))
	odd := []string{" ", "\"", "\\", "\\22", "\\41", "\n", "\x7f", "a", "  ", " \"", "\t", ""}[m.Intn(12)]
	switch m.Intn(4) {
	case 0:
		return line[:i] + line[i+1:]
	case 1:
		return line[:i] + odd + line[i:]
	case 2:
		return line[:i] + odd + line[i+1:]
	}
	return line + odd
}

// Made sessions, with lines that are bent now and then, held against the second way; and P18.
func TestSessionByChance(t *testing.T) {
	m := newTyped(111)
	count := map[string]int{}
	for range 1000 {
		text := "file t " + quoted(m.sessionText()) + "\nfile u " + quoted(m.sessionText()) + "\nfile a \"" + []string{"a", "b", "t", "1"}[m.Intn(4)] + "\"\n"
		for range m.Intn(40) {
			line := m.line()
			if m.Intn(8) == 0 {
				line = m.bendLine(line)
			}
			text += line + "\n"
		}
		if m.Intn(4) == 0 {
			text = strings.TrimSuffix(text, "\n")
		}
		got := impl.Session(text)
		wantAnswers(t, "by chance", text, modelSession(text))
		for _, answer := range strings.Split(got, "\n") {
			count[strings.Split(answer+" ", " ")[0]]++
		}
		if len(text) > impl.MaxSession {
			continue
		}
		for range 3 {
			begin := strings.Join(strings.SplitAfter(text, "\n")[:m.Intn(strings.Count(text, "\n")+1)], "")
			part := impl.Session(begin)
			if !strings.HasPrefix(got, part) || strings.Count(part, "\n") != strings.Count(begin, "\n") {
				t.Fatalf("%.1000q\n%.1000q\nbut all of it\n%.1000q", begin, part, got)
			}
		}
	}
	for _, word := range []string{"code", "ok", "none", "fits", "fault", "unfit", "no", "yes", "bad", "-", "0", "1", "2", "3", "4", "9"} {
		if count[word] < 20 {
			t.Errorf("%s: %d times (%v)", word, count[word], count)
		}
	}
}

// Texts that are no sessions at all are answered, too: a line for each.
func TestSessionAnyBytes(t *testing.T) {
	m := newTyped(112)
	for range 3000 {
		var b strings.Builder
		for range m.Intn(200) {
			b.WriteString([]string{"file", "act", "said", " ", " ", "\"", "\\", "\n", "a", "t", "22", "0a", string([]byte{byte(m.Intn(256))})}[m.Intn(13)])
		}
		wantAnswers(t, "any bytes", b.String(), modelSession(b.String()))
	}
}
