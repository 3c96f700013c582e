"""Who rules: who rules which company, by the parts that people and companies hold."""
