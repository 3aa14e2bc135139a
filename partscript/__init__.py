"""Each one's part of a script: the functions are in partscript.parts."""
