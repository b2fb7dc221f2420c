package render

import "loomwork/api"

// Ranks of parts: a part stands in brackets where its rank is below the one
// that its place asks for. An "if" has the lowest, since what stands behind its
// "else" goes on as far as it can: it stands bare only where anything may.
const (
	rankIf = iota
	rankOr
	rankAnd
	rankCompare
	rankSum
	rankProduct
	rankAhead
	rankUnit
)

// operator: its word in forms, and its sign with the blanks around it.
type operator struct {
	word, sign string
	rank       int
}

// operators by their numbers. Those without a sign are forms themselves.
var operators = [...]operator{
	api.KAdd:  {"add", " + ", rankSum},
	api.KSub:  {"sub", " - ", rankSum},
	api.KMul:  {"mul", " * ", rankProduct},
	api.KDiv:  {"div", " / ", rankProduct},
	api.KMod:  {"mod", " % ", rankProduct},
	api.KMin:  {"min", "", rankUnit},
	api.KMax:  {"max", "", rankUnit},
	api.KLess: {"less", " < ", rankCompare},
	api.KEq:   {"eq", " == ", rankCompare},
	api.KAnd:  {"and", " and ", rankAnd},
	api.KOr:   {"or", " or ", rankOr},
	api.KXor:  {"xor", " xor ", rankOr},
	api.KNeg:  {"neg", "-", rankAhead},
	api.KNot:  {"not", "not ", rankAhead},
}

// shape: how many parts and sizes an expression of a kind must have, and which
// operators it may have.
type shape struct {
	word        string // of a form
	least, most int    // parts
	sizes       int
	first, last int // operators
}

// shapes by kinds of expressions.
var shapes = [...]shape{
	api.XNum:   {},
	api.XTruth: {},
	api.XName:  {},
	api.XUn:    {least: 1, most: 1, first: api.KNeg, last: api.KNot},
	api.XBin:   {least: 2, most: 2, first: api.KAdd, last: api.KXor},
	api.XIf:    {least: 3, most: 3},
	api.XMap:   {word: "map", least: 1, most: 2, first: api.KAdd, last: api.KNot},
	api.XFold:  {word: "fold", least: 2, most: 2, first: api.KAdd, last: api.KNot},
	api.XScan:  {word: "scan", least: 2, most: 2, first: api.KAdd, last: api.KNot},
	api.XFill:  {word: "fill", least: 1, most: 1, sizes: 1},
	api.XIndex: {least: 3, most: 3},
	api.XWith:  {word: "with", least: 3, most: 3},
	api.XSlice: {word: "slice", least: 1, most: 1, sizes: 2},
	api.XCat:   {word: "cat", least: 2, most: 2},
	api.XPre:   {word: "pre", least: 2, most: 2},
}
