"""One question within another: is every answer of one expression an answer of the other, in every graph?"""
