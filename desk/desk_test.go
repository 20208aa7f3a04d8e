package desk

import (
	"slices"
	"strconv"
	"strings"
	"testing"

	"tenure/api"
	"tenure/clock"
	"tenure/world"
)

// die: numbers that look drawn, the same each time.
type die uint64

func (d *die) below(most int) int {
	*d = *d*6364136223846793005 + 1442695040888963407
	return int(uint64(*d>>11) % uint64(most))
}

// dialog: pairs of a line and its answer, all in one session.
func dialog(t *testing.T, pairs ...string) {
	t.Helper()
	text, want := "", ""
	for i := 0; i < len(pairs); i += 2 {
		text += pairs[i] + "\n"
		want += pairs[i+1] + "\n"
	}
	if got := Session(text); got != want {
		t.Fatalf("%q is answered\n%q, not\n%q", text, got, want)
	}
}

// answers: the text's answer is that, to the byte.
func answers(t *testing.T, text, want string) {
	t.Helper()
	if got := Session(text); got != want {
		t.Fatalf("%.100q is answered %.100q, not %.100q", text, got, want)
	}
}

const helpText = "again begin calls calm crash deliver fails goes help lose many read reborn restart short twice up value write"

// TestLength: MaxText bytes are not too many, whatever they are.
func TestLength(t *testing.T) {
	for _, s := range []string{" ", "\n", "x", "\xff"} {
		answers(t, strings.Repeat(s, api.MaxText+1), "error 4\n")
		answers(t, strings.Repeat(s, 3*api.MaxText), "error 4\n")
	}
	answers(t, strings.Repeat(" ", api.MaxText), "ok\n")
	answers(t, strings.Repeat("x", api.MaxText), "error 3\n")
	answers(t, strings.Repeat("\n", api.MaxText), strings.Repeat("ok\n", api.MaxText))
	answers(t, strings.Repeat("up\n", api.MaxText/3), strings.Repeat("true\n", api.MaxText/3))
	// Bytes are counted, not runes.
	answers(t, strings.Repeat("\u00e9", api.MaxText/2), "error 3\n")
	answers(t, strings.Repeat("\u00e9", api.MaxText/2+1), "error 4\n")
}

// TestLines: where texts are cut.
func TestLines(t *testing.T) {
	answers(t, "", "ok\n")
	answers(t, "\n", "ok\n")
	answers(t, "\n\n", "ok\nok\n")
	answers(t, "\n\n\n", "ok\nok\nok\n")
	answers(t, "up", "true\n")
	answers(t, "up\n", "true\n")
	answers(t, "up\n\n", "true\nok\n")
	answers(t, "\nup", "ok\ntrue\n")
	answers(t, "up\n\nmany", "true\nok\n0\n")
	answers(t, "up\n ", "true\nok\n")
	answers(t, "up\r\nup", "error 3\ntrue\n")
}

// TestWords: blanks stand between words, and at both ends; nothing else does.
func TestWords(t *testing.T) {
	dialog(t,
		" ", "ok", "     ", "ok",
		" up", "true", "up ", "true", "   up   ", "true",
		"  write   0  3    a  ", "write", "calm 1", "calm", "value 3", "a 1",
		"write\t1\t3\tb", "error 3", "\t", "error 3", "up\t", "error 3",
		"up\v", "error 3", "up\u00a0", "error 3", "\u2003", "error 3", "\x00", "error 3",
		"write 1 3 a\tb", "write", "calm 26", "calm", "value 3", "a\tb 2",
	)
}

// TestFirstWord: no other word is one, nor a part of one.
func TestFirstWord(t *testing.T) {
	for _, s := range []string{"x", "UP", "Up", "u", "upp", "up!", "ok", "error", "0", "-", "_", "session", "reads 0 0", "rea d 0 0", "\xff", "up\x00"} {
		dialog(t, s, "error 3", "calls", "", "many", "0")
	}
}

// forms: each first word, and words behind it that may be.
var forms = []string{
	"begin 30 9 0 3", "read 0 0", "write 0 0 a", "again 0", "deliver 0", "lose 0", "twice 0", "goes 1 1 1",
	"fails 1 1", "crash", "restart", "reborn 0", "calm 1", "calls", "many", "up", "value 0", "short 100 1100", "help",
}

// TestForm: so many words, no fewer and no more.
func TestForm(t *testing.T) {
	for _, form := range forms {
		words := strings.Fields(form)
		for many := range 7 {
			line := strings.Join(append(slices.Clone(words[:min(1+many, len(words))]), slices.Repeat([]string{"1"}, max(0, many+1-len(words)))...), " ")
			got := Session(line)
			if right := many == len(words)-1 || words[0] == "goes"; right != (got != "error 3\n") {
				t.Fatalf("%q is answered %q", line, got)
			}
		}
	}
	if len(forms) != len(strings.Fields(helpText)) {
		t.Fatal("a form is missing")
	}
}

// TestNoNumber: each word that must be a number is one; a wrong form is told ahead of all else, and nothing is done.
func TestNoNumber(t *testing.T) {
	no := []string{
		"x", "-", "+1", "--1", "-+1", "1-", "01", "00", "-0", "-01", "1.0", "1e1", "0x1", "1_0", "_", "1x", "x1", "\u0661",
		"9223372036854775808", "-9223372036854775809", "18446744073709551616", "99999999999999999999999999",
	}
	for _, form := range forms {
		words := strings.Fields(form)
		for i := 1; i < len(words) && !(words[0] == "write" && i == 3); i++ {
			for _, n := range no {
				bad := slices.Clone(words)
				bad[i] = n
				line := strings.Join(bad, " ")
				dialog(t, line, "error 3", "calls", "", "many", "0", "up", "true", "goes 0 0 0", "goes")
			}
		}
	}
	dialog(t, "begin 1 2 3 x", "error 3", "read 9 x", "error 3", "calm 201 x", "error 3", "calm 20x", "error 3", "goes -1 x", "error 3", "short -1 x", "error 3", "write x 9 a", "error 3", "write 9 9", "error 3")
}

// TestNumber: the greatest and the least ones of 64 bits are numbers.
func TestNumber(t *testing.T) {
	for _, n := range []string{"9223372036854775807", "-9223372036854775808"} {
		dialog(t,
			"begin "+n+" "+n+" "+n+" "+n, "error 2", "read "+n+" 0", "error 2", "read 0 "+n, "error 2",
			"write "+n+" 0 a", "error 2", "write 0 "+n+" a", "error 2", "again "+n, "error 2", "deliver "+n, "error 2",
			"lose "+n, "error 2", "twice "+n, "error 2", "goes "+n+" 0 0", "error 2", "goes 0 0 "+n, "error 2", "goes "+n, "error 2",
			"reborn "+n, "error 2", "calm "+n, "error 2", "value "+n, "error 2", "short "+n+" 0", "error 2", "short 0 "+n, "error 2",
			"fails "+n+" "+n, "fails", "up", "true",
		)
	}
}

// TestFirstWorld: it is empty, and has two clients; an object's lease is over behind 20. (The other terms: TestTwin.)
func TestFirstWorld(t *testing.T) {
	dialog(t,
		"calls", "", "many", "0", "up", "true", "value 0", "_ 0", "value 7", "_ 0", "value 8", "error 2", "value -1", "error 2",
		"again 0", "again", "again 1", "again", "again 2", "error 2", "goes 0 0 0", "goes", "goes 0 0", "error 2", "goes", "error 2", "goes 0 0 0 0", "error 2",
	)
	for _, x := range []struct{ rounds, answer string }{{"18", "read 1 3 _ 0, read 1 3 _ 0 hit"}, {"19", "read 1 3 _ 0, read 1 3 open"}} {
		dialog(t, "calm 26", "calm", "read 1 3", "read", "calm 1", "calm", "calm "+x.rounds, "calm", "read 1 3", "read", "calls", x.answer)
	}
}

// TestBegin: a new world is as it is asked for; of terms that may not be there is none, and the old one stays.
func TestBegin(t *testing.T) {
	dialog(t,
		"write 0 3 a", "write", "calm 26", "calm",
		"begin 8 9 0 2", "error 2", "begin 9 0 0 2", "error 2", "begin 9 9 501 2", "error 2", "begin 9 9 -1 2", "error 2",
		"begin 9 9 0 0", "error 2", "begin 9 9 0 5", "error 2", "begin 274877906945 9 0 2", "error 2",
		"value 3", "a 1", "calls", "write 0 3 a 1", "goes 0 0 0", "goes",
		"begin 274877906944 274877906944 500 4", "begin", "value 3", "_ 0", "calls", "", "many", "0", "up", "true",
		"goes 0 0 0", "error 2", "goes 0 0 0 0 0", "goes", "again 3", "again",
		"crash", "crash", "begin 9 9 0 1", "begin", "up", "true", "again 1", "error 2", "goes 1 1", "goes",
	)
}

// TestCalls: how each kind of event is told.
func TestCalls(t *testing.T) {
	dialog(t,
		"calls", "",
		"write 0 3 a", "write", "calls", "write 0 3 open", "calm 26", "calm", "calls", "write 0 3 a 1",
		"read 1 3", "read", "calls", "write 0 3 a 1, read 1 3 open", "calm 1", "calm", "calls", "write 0 3 a 1, read 1 3 a 1",
		"read 1 3", "read", "calls", "write 0 3 a 1, read 1 3 a 1, read 1 3 a 1 hit",
		"read 0 7", "read", "calm 1", "calm", "calls", "write 0 3 a 1, read 1 3 a 1, read 1 3 a 1 hit, read 0 7 _ 0",
		"read 0 7", "read", "calls", "write 0 3 a 1, read 1 3 a 1, read 1 3 a 1 hit, read 0 7 _ 0, read 0 7 _ 0 hit",
	)
	// The call of a client that is gone is never over.
	dialog(t, "write 1 2 a", "write", "reborn 1", "reborn", "read 1 2", "read", "calm 26", "calm", "calls", "write 1 2 open, read 1 2 a 1")
	dialog(t, "read 1 2", "read", "lose 0", "lose", "reborn 1", "reborn", "calm 26", "calm", "calls", "read 1 2 open")
	// Without room on the disk a write is over, but not done.
	full := strings.Repeat("crash\nrestart\n", api.MaxLog)
	answers(t, full+"write 0 3 a\ncalm 26\ncalls\nvalue 3\n", full+"write\ncalm\nwrite 0 3 a 0\n_ 0\n")
}

// TestData: any bytes are data, but blanks and line feeds; more than MaxData are wrong, behind all else that is.
func TestData(t *testing.T) {
	for _, s := range []string{"a", "0", "-1", "01", "_", ",", "hit", "open", "\x00", "\xff\xfe", "\u00e9", "\r", "\t", strings.Repeat("x", api.MaxData), strings.Repeat("\xff", api.MaxData)} {
		dialog(t, "write 0 3 "+s, "write", "calm 26", "calm", "value 3", s+" 1", "calls", "write 0 3 "+s+" 1")
	}
	long := strings.Repeat("x", api.MaxData+1)
	dialog(t, "write 0 3 "+long, "error 4", "write 0 8 "+long, "error 2", "write 2 3 "+long, "error 2", "calls", "", "many", "0")
	dialog(t, "write 0 3 a", "write", "write 0 3 "+long, "error 6", "calls", "write 0 3 open")
}

// TestErrors: each line's errors, in their order.
func TestErrors(t *testing.T) {
	dialog(t,
		"read 2 0", "error 2", "read -1 0", "error 2", "read 0 8", "error 2", "read 0 -1", "error 2", "write 2 0 a", "error 2", "write 0 8 a", "error 2",
		"again 2", "error 2", "again -1", "error 2", "reborn 2", "error 2", "reborn -1", "error 2",
		"deliver 0", "error 2", "lose 0", "error 2", "twice 0", "error 2", "deliver -1", "error 2", "lose -1", "error 2", "twice -1", "error 2",
		"goes 0 0 -1", "error 2", "goes 0 0 137438953473", "error 2", "goes 137438953472 0 0", "goes",
		"restart", "error 6", "crash", "crash", "value 0", "error 6", "value 8", "error 6", "up", "false", "crash", "crash", "restart", "restart", "up", "true",
		"read 0 0", "read", "read 0 0", "error 6", "read 0 8", "error 6", "write 0 0 a", "error 6", "calls", "read 0 0 open",
	)
}

// TestCalm: from 0 to 200 rounds.
func TestCalm(t *testing.T) {
	dialog(t,
		"write 0 3 a", "write", "calm -1", "error 2", "calm 201", "error 2", "calm 1000000", "error 2", "calls", "write 0 3 open",
		"crash", "crash", "calm 0", "calm", "up", "false", "calls", "write 0 3 open", "calm 200", "calm", "up", "true", "calls", "write 0 3 a 1",
	)
	// A round goes on by 1: behind a Restart a write waits for 8.
	dialog(t, "crash", "crash", "write 0 3 a", "write", "calm 7", "calm", "calls", "write 0 3 open", "calm 1", "calm", "calls", "write 0 3 a 1")
}

// TestFails: the power goes off behind so many records.
func TestFails(t *testing.T) {
	for _, torn := range []string{"-1", "0", "9", "30", "1000"} {
		dialog(t,
			"fails 1 "+torn, "fails", "up", "true", "write 0 3 a", "write", "deliver 0", "deliver", "deliver 0", "deliver", "up", "true", "value 3", "a 1",
			"write 1 3 b", "write", "deliver 2", "deliver", "deliver 2", "deliver", "up", "false", "value 3", "error 6",
			"restart", "restart", "value 3", "a 1", "calm 26", "calm", "value 3", "b 2", "up", "true",
		)
	}
	dialog(t, "fails -1 0", "fails", "write 0 3 a", "write", "deliver 0", "deliver", "deliver 0", "deliver", "up", "false")
}

// TestGrams: datagrams are brought, lost and doubled, each the one that is asked for.
func TestGrams(t *testing.T) {
	dialog(t,
		"calm 26", "calm", "write 0 3 a", "write", "write 1 4 b", "write", "many", "2", "twice 1", "twice", "many", "3",
		"lose 0", "lose", "many", "2", "deliver 0", "deliver", "many", "2", "value 3", "_ 0", "value 4", "b 1",
		"deliver 1", "deliver", "calls", "write 0 3 open, write 1 4 b 1", "many", "1",
		"again 0", "again", "many", "2", "deliver 1", "deliver", "value 3", "a 1", "deliver 1", "deliver", "calls", "write 0 3 a 1, write 1 4 b 1",
	)
}

// TestShort: as in chapter 1.
func TestShort(t *testing.T) {
	dialog(t,
		"short 100 1100", "900", "short 0 7", "7", "short 500 10", "3", "short 0 0", "0", "short 0 1099511627776", "1099511627776",
		"short 501 1", "error 2", "short -1 1", "error 2", "short 0 -1", "error 2", "short 0 1099511627777", "error 2", "short 1100 100", "error 2",
	)
}

// TestHelp: all first words, rising.
func TestHelp(t *testing.T) { dialog(t, "help", helpText, "help help", "error 3") }

// TestAlone: a session knows nothing of another one.
func TestAlone(t *testing.T) {
	for range 2 {
		dialog(t, "value 3", "_ 0", "calls", "", "write 0 3 a", "write", "calm 26", "calm", "value 3", "a 1")
	}
}

// TestFault: what is no Errno is told, too: no call panics.
func TestFault(t *testing.T) {
	d := open()
	d.deeds["up"] = func([]string) string { panic("fault") }
	d.deeds["many"] = func(words []string) string { return words[len(words)] }
	for _, x := range [][2]string{{"up", "error -1"}, {"many", "error -1"}, {"x", "error 3"}, {"value 9", "error 2"}, {"value 0", "_ 0"}} {
		if got := d.answer(x[0]); got != x[1] {
			t.Fatalf("%s is answered %s, not %s", x[0], got, x[1])
		}
	}
}

// twin: a world, asked by calls, that goes along with a session.
type twin struct {
	w       *world.World
	clients int
}

// line: what is asked, as a text, and what the world answers to it.
func (x *twin) line(d *die) (text, answer string) {
	a, b := d.below(5)-1, d.below(10)-1
	pair := " " + strconv.Itoa(a) + " " + strconv.Itoa(b)
	one := " " + strconv.Itoa(a)
	switch d.below(16) {
	case 0, 1, 2:
		return "read" + pair, orError("read", x.w.Read(a, b))
	case 3, 4, 5:
		data := strings.Repeat(string(rune('a'+d.below(26))), 1+d.below(api.MaxData+1))
		return "write" + pair + " " + data, orError("write", x.w.Write(a, b, data))
	case 6:
		return "again" + one, orError("again", x.w.Again(a))
	case 7, 8, 9:
		return "deliver" + one, orError("deliver", x.w.Deliver(a))
	case 10:
		return "lose" + one, orError("lose", x.w.Lose(a))
	case 11:
		return "twice" + one, orError("twice", x.w.Twice(a))
	case 12:
		return x.rare(d, pair, one, a, b)
	case 13:
		return x.ask(d, pair, one, a, b)
	case 14:
		by, text := make([]int, d.below(2)+x.clients), "goes"
		for k := range by {
			by[k] = d.below(4)
			text += " " + strconv.Itoa(by[k])
		}
		return text, orError("goes", x.w.Goes(by))
	}
	x.w.Calm(a + 1)
	return "calm " + strconv.Itoa(a+1), "calm"
}

// rare: what happens seldom.
func (x *twin) rare(d *die, pair, one string, a, b int) (text, answer string) {
	switch d.below(6) {
	case 0:
		x.w.Crash()
		return "crash", "crash"
	case 1, 2:
		return "restart", orError("restart", x.w.Restart())
	case 3:
		return "reborn" + one, orError("reborn", x.w.Reborn(a))
	case 4:
		x.w.Fails(a, b)
		return "fails" + pair, "fails"
	}
	terms, clients := api.Terms{Object: 5 + a, Volume: 5, Drift: 100 * b}, 3+d.below(3)
	w, err := world.New(terms, clients)
	if err == nil {
		x.w, x.clients = w, clients
	}
	text = "begin " + strconv.Itoa(terms.Object) + " 5 " + strconv.Itoa(terms.Drift) + " " + strconv.Itoa(clients)
	return text, orError("begin", err)
}

// ask: what changes nothing.
func (x *twin) ask(d *die, pair, one string, a, b int) (text, answer string) {
	switch d.below(5) {
	case 0:
		return "many", strconv.Itoa(x.w.Many())
	case 1:
		return "up", strconv.FormatBool(x.w.Up())
	case 2:
		v, err := x.w.Value(a)
		return "value" + one, orError(data(v), err)
	case 3:
		n, err := clock.Short(a, b)
		return "short" + pair, orError(strconv.Itoa(n), err)
	}
	return "calls", x.calls()
}

// calls: all events, told anew.
func (x *twin) calls() string {
	s := ""
	for i, e := range x.w.Events() {
		if i > 0 {
			s += ", "
		}
		s += map[int]string{api.Reads: "read", api.Writes: "write"}[e.Call.Kind] + " " + strconv.Itoa(e.Client) + " " + strconv.Itoa(e.Call.Object)
		switch {
		case !e.Call.Over:
			s += " open"
		case e.Call.Hit:
			s += " " + data(e.Call.Value) + " hit"
		default:
			s += " " + data(e.Call.Value)
		}
	}
	return s
}

func data(v api.Value) string {
	if v.Data == "" {
		return "_ " + strconv.Itoa(v.Version)
	}
	return v.Data + " " + strconv.Itoa(v.Version)
}

func orError(s string, err error) string {
	if err != nil {
		return "error " + strconv.Itoa(int(api.Tell(err)))
	}
	return s
}

// TestTwin: a session answers what a world does that is asked by calls, whatever lines that change nothing stand between.
func TestTwin(t *testing.T) {
	d := die(7)
	nothing := []string{"", " ", "x", "help", "calm 201", "read 0", "write 0 0", "goes x", "begin 1 2 3 4", "begin 9 9 0 2 1", "crash 1", "restart 0", "value 8 8", "reborn 9", "calls calls"}
	for range 300 {
		w, err := world.New(api.Terms{Object: 20, Volume: 8}, 2)
		if err != nil {
			t.Fatal(err)
		}
		x := &twin{w: w, clients: 2}
		var text, want, got []string
		for range 60 {
			if d.below(4) == 0 {
				text = append(text, nothing[d.below(len(nothing))])
				want = append(want, "")
			}
			line, answer := x.line(&d)
			text, want = append(text, line, "calls"), append(want, answer, x.calls())
		}
		got = strings.Split(strings.TrimSuffix(Session(strings.Join(text, "\n")), "\n"), "\n")
		if len(got) != len(text) {
			t.Fatalf("%d lines are answered by %d", len(text), len(got))
		}
		for i := range text {
			if got[i] != want[i] && !slices.Contains(nothing, text[i]) {
				t.Fatalf("%q, line %d, is answered %q, not %q", text, i, got[i], want[i])
			}
		}
	}
}
