"""Rules over few values, first solutions, least cores, and papers that a judge takes."""
