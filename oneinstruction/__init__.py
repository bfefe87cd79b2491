"""One instruction at a time: lines of a small processor's assembler, their words, what they do to its registers."""
