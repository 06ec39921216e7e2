"""Laws as they stood: acts and commands that change the texts of laws."""
