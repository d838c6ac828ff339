"""mathgalley: formulas set in boxes, broken into lines, and edited at carets."""
