package tests

import (
	"fmt"
	"slices"
	"strconv"
	"strings"
	"testing"

	"loop.example/loom/impl"
)

// Codes are written as texts:
//
//	proto NAME line 3 params 1 rest regs 5 ups l0 u1
//	  const 0 "text"        a const: nil, true, 7, 1.5, "text", @print (a builtin)
//	  fn 1 NAME             a proto by its name (the fn's own name may be empty: _x is named "")
//	  binary 2 lt 0! 1      an operation by its name; 0! is register 0, taken
//	  if 2! >there          an instruction by its label
//	there:
//	  name x 2 0 >there     register 2 is named x from instruction 0 up to that label; with no numbers: everywhere
//	  only x 2              register 2 is named x at the next instruction alone
//
// The names of instructions are those of the listing. Several may stand in one line, with ; between them.
// Two more stand for several instructions, and use the last two registers of the proto, which hold nothing:
//
//	show 0 1!               prints values
//	ask 2 @type 0 1!        calls a builtin; register 2 becomes the first value

func builtinNames() []string {
	return strings.Fields("print read type text setkind kind rawget rawset task resume yield status giveup collect cells")
}

func operationNames() []string {
	return strings.Fields("- add sub mul div idiv mod and or xor shl shr join eq ne lt le gt ge neg flip not len")
}

// asm is the code that a text tells; it panics when the text is wrong.
func asm(source string) impl.Code {
	var c impl.Code
	var bodies [][]string
	names := map[string]int{}
	for _, line := range strings.Split(source, "\n") {
		line, _, _ = strings.Cut(line, "//")
		for _, part := range splitParts(line) {
			part = strings.TrimSpace(part)
			words := strings.Fields(part)
			switch {
			case len(words) == 0:
			case words[0] == "proto":
				names[words[1]] = len(c.Protos)
				c.Protos = append(c.Protos, asmHead(words))
				bodies = append(bodies, nil)
			default:
				bodies[len(bodies)-1] = append(bodies[len(bodies)-1], part)
			}
		}
	}
	for p := range c.Protos {
		asmBody(&c.Protos[p], bodies[p], names)
	}
	return c
}

// splitParts cuts a line at each ; that stands outside of a text.
func splitParts(line string) []string {
	var parts []string
	start, quoted := 0, false
	for i := range len(line) {
		switch {
		case line[i] == '"' && (i == 0 || line[i-1] != '\\'):
			quoted = !quoted
		case line[i] == ';' && !quoted:
			parts = append(parts, line[start:i])
			start = i + 1
		}
	}
	return append(parts, line[start:])
}

func asmHead(words []string) impl.Proto {
	p := impl.Proto{Name: words[1]}
	if strings.HasPrefix(p.Name, "_") {
		p.Name = ""
	}
	for i := 2; i < len(words); i++ {
		switch words[i] {
		case "line":
			p.Line = asmInt(words[i+1])
		case "params":
			p.Params = asmInt(words[i+1])
		case "regs":
			p.Regs = asmInt(words[i+1])
		case "rest":
			p.Rest = true
			continue
		case "ups":
			for _, u := range words[i+1:] {
				p.Ups = append(p.Ups, impl.Up{Local: u[0] == 'l', Index: asmInt(u[1:])})
			}
			return p
		default:
			panic("no such word: " + words[i])
		}
		i++
	}
	return p
}

func asmInt(s string) int {
	n, err := strconv.Atoi(s)
	if err != nil {
		panic(err)
	}
	return n
}

func asmBody(p *impl.Proto, parts []string, names map[string]int) {
	labels, rest, named := map[string]int{}, []string{}, []string{}
	for _, part := range asmLonger(p.Regs-2, parts) {
		if label, ok := strings.CutSuffix(part, ":"); ok && !strings.Contains(label, " ") {
			labels[label] = len(rest)
		} else if strings.HasPrefix(part, "name ") {
			named = append(named, part)
		} else if only, ok := strings.CutPrefix(part, "only "); ok {
			named = append(named, fmt.Sprintf("name %s %d %d", only, len(rest), len(rest)+1))
		} else {
			rest = append(rest, part)
		}
	}
	for _, part := range rest {
		p.Ins = append(p.Ins, asmIns(p, part, labels, names))
	}
	for _, part := range named {
		p.Named = append(p.Named, asmNamed(strings.Fields(part), labels, len(rest)))
	}
}

func asmNamed(words []string, labels map[string]int, count int) impl.Named {
	n := impl.Named{Name: words[1], Reg: asmInt(words[2]), To: count}
	for i, w := range words[3:] {
		at := 0
		if w[0] == '>' {
			at = asmName(labels, w[1:])
		} else {
			at = asmInt(w)
		}
		*[]*int{&n.From, &n.To}[i] = at
	}
	return n
}

// asmLonger writes out what stands for several instructions, with the register r and the next one.
func asmLonger(r int, parts []string) []string {
	var out []string
	for _, part := range parts {
		words := strings.Fields(part)
		args := words[1:]
		builtin, end := "@print", fmt.Sprintf("drop %d", r)
		switch words[0] {
		case "ask":
			builtin, end = words[2], fmt.Sprintf("first %s %d!", words[1], r)
			args = words[3:]
		case "show":
		default:
			out = append(out, part)
			continue
		}
		out = append(out, fmt.Sprintf("const %d %s", r, builtin), fmt.Sprintf("list %d", r+1))
		for _, x := range args {
			out = append(out, fmt.Sprintf("add %d %s", r+1, x))
		}
		out = append(out, fmt.Sprintf("call %d %d! %d!", r, r, r+1), end)
	}
	return out
}

func asmIns(p *impl.Proto, part string, labels, names map[string]int) impl.Ins {
	words := strings.Fields(part)
	op := 1 + slices.Index(strings.Fields(plainNames), words[0])
	if op == 0 {
		panic("no such instruction: " + part)
	}
	var f [4]int
	for i, w := range words[1:] {
		switch {
		case op == impl.IConst && i == 1:
			_, literal, _ := strings.Cut(part, words[1])
			f[1] = asmConst(p, strings.TrimSpace(literal))
			return impl.Ins{Op: op, A: f[0], B: f[1]}
		case op == impl.IFn && i == 1:
			f[i] = asmName(names, w)
		case (op == impl.IBinary || op == impl.IUnary) && i == 1:
			f[i] = slices.Index(operationNames(), w)
		case w[0] == '>':
			f[i] = asmName(labels, w[1:])
		case strings.HasSuffix(w, "!"):
			f[i] = -1 - asmInt(strings.TrimSuffix(w, "!"))
		default:
			f[i] = asmInt(w)
		}
	}
	return impl.Ins{Op: op, A: f[0], B: f[1], C: f[2], D: f[3]}
}

func asmName(names map[string]int, name string) int {
	at, ok := names[name]
	if !ok {
		panic("no such name: " + name)
	}
	return at
}

// asmConst is the number of a const, which comes to those of the proto when it is not there yet.
func asmConst(p *impl.Proto, literal string) int {
	v := asmValue(literal)
	for i, old := range p.Consts {
		if alike(old, v) {
			return i
		}
	}
	p.Consts = append(p.Consts, v)
	return len(p.Consts) - 1
}

func asmValue(literal string) impl.Value {
	if s, err := strconv.Unquote(literal); err == nil {
		return text(s)
	}
	if n, err := strconv.ParseInt(literal, 10, 64); err == nil {
		return number(n)
	}
	if f, err := strconv.ParseFloat(literal, 64); err == nil {
		return float(f)
	}
	switch literal {
	case "nil":
		return impl.Value{}
	case "true", "false":
		return valBool(literal == "true")
	}
	b := slices.Index(builtinNames(), strings.TrimPrefix(literal, "@"))
	if b < 0 {
		panic("no such value: " + literal)
	}
	return impl.Value{Kind: impl.KBuiltin, Num: int64(b)}
}

// verified is the code that a text tells, which has to be a verified one.
func verified(t *testing.T, source string) impl.Code {
	t.Helper()
	c := asm(source)
	if f := impl.CheckCode(c); f.Code != 0 {
		t.Fatalf("%v in %s\n%s", f, source, impl.QuickListing(c))
	}
	return c
}

// roomy is an input that is short of nothing.
func roomy(args ...string) impl.Input {
	return impl.Input{Args: args, Ticks: 5000, Depth: 60, Cells: 20000}
}

// ranOf is the report of a run, whose last move is asked for as P3 says it.
func ranOf(t *testing.T, c impl.Code, in impl.Input) impl.Report {
	t.Helper()
	n := impl.Moves(c, in)
	m := impl.Stand(c, in, 0, n)
	if n == 0 || !m.Over || m.Moves != n {
		t.Fatalf("not over behind %d moves: %+v", n, m)
	}
	if early := impl.Stand(c, in, 0, n-1); early.Over || early.Moves != n-1 {
		t.Fatalf("over ahead of %d moves: %+v", n, early)
	}
	return m.Rep
}

const recordNames = "- line call back throw catch print turn last"

// toldRecords is a report's records, one a line: its name, task, fn, line, text.
func toldRecords(r impl.Report) string {
	var out strings.Builder
	for _, x := range r.Recs {
		fmt.Fprintf(&out, "%s %d %d %d %s\n", strings.Fields(recordNames)[x.Kind], x.Task, x.Fn, x.Line, x.Text)
	}
	return out.String()
}

// wantRun holds the report of a run against the records and the end that are
// wanted, and against plain stepping, with all views of a short one. The end is "ok VALS..", "error ERROR @ TRACE" or "out".
func wantRun(t *testing.T, name, source string, in impl.Input, end, records string) impl.Report {
	t.Helper()
	c := verified(t, source)
	rep := ranOf(t, c, in)
	if plain := plainRun(c, in); !alike(rep, plain) {
		t.Errorf("%s: got\n%+v\nstepped plainly\n%+v", name, rep, plain)
	}
	if len(rep.Recs) <= 30 {
		wantViews(t, name, everyName(c), in)
	}
	if got := toldEnd(rep); got != end {
		t.Errorf("%s: ends with %q, not %q", name, got, end)
	}
	if got, want := toldRecords(rep), trimmedLines(records); records != "-" && got != want {
		t.Errorf("%s: got\n%swant\n%s", name, got, want)
	}
	return rep
}

// wantPrints is wantRun with what is printed alone.
func wantPrints(t *testing.T, name, source string, in impl.Input, end string, prints ...string) impl.Report {
	t.Helper()
	rep := wantRun(t, name, source, in, end, "-")
	var got []string
	for _, x := range rep.Recs {
		if x.Kind == impl.RecPrint {
			got = append(got, x.Text)
		}
	}
	if !slices.Equal(got, prints) {
		t.Errorf("%s: prints %q, not %q", name, got, prints)
	}
	return rep
}

func toldEnd(r impl.Report) string {
	switch r.Code {
	case 0:
		return strings.Join(append([]string{"ok"}, r.Vals...), " ")
	case 1:
		return "error " + r.Error + " @ " + r.Trace
	}
	return "out"
}

// trimmedLines takes away what stands around each line; a text that is empty is told with a space ahead of it.
func trimmedLines(s string) string {
	var out strings.Builder
	for _, line := range strings.Split(s, "\n") {
		line = strings.TrimSpace(line)
		if line == "" {
			continue
		}
		if len(strings.Fields(line)) == 4 {
			line += " "
		}
		out.WriteString(line + "\n")
	}
	return out.String()
}
