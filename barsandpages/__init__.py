"""Lines and pages of music. The program's one function is answers, in barsandpages.setting."""
