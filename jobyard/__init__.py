"""Jobs on machines. The program is asked by jobyard.yard.answers."""
