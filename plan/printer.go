package plan

import (
	"strconv"
	"strings"

	"carrefour/api"
	"carrefour/lex"
)

// greatest is the greatest number of MaxDigits digits.
const greatest = 1_000_000_000_000_000_000 - 1

// printer lays words out as lines: each line of a plan ends with ; or with a brace, and none of these stands within a line.
type printer struct {
	strings.Builder
	open int    // braces
	last string // the word ahead
}

func (p *printer) want(right bool) {
	if !right {
		panic(fault{number: api.ErrArg})
	}
}

func (p *printer) each(things ...any) {
	for _, thing := range things {
		switch x := thing.(type) {
		case string:
			p.put(x)
		case *string:
			t := api.Token{Kind: api.TWord, Text: *x}
			p.want(lex.Right(t) && isName(t))
			p.put(*x)
		case *int64:
			p.want(*x >= 0 && *x <= greatest)
			p.put(strconv.FormatInt(*x, 10))
		case *bool:
			p.put(answer(*x))
		}
	}
}

func (p *printer) more(word string, at, many, least, most int) bool {
	p.want(many >= least && many <= most)
	return at < many
}

func (p *printer) put(word string) {
	if word == "}" {
		p.open--
	}
	p.WriteString(p.gap(word))
	p.WriteString(word)
	if word == "{" {
		p.open++
	}
	p.last = word
}

// gap tells what stands between the word ahead and this one.
func (p *printer) gap(word string) string {
	switch p.last {
	case "", "/":
		return ""
	case "{", "}", ";":
		return "\n" + strings.Repeat("  ", p.open)
	}
	if word == ";" || word == "/" {
		return ""
	}
	return " "
}

func (p *printer) end() { p.WriteByte('\n') }
